import PyProof.Rows.All
import Wide.All
import OpenK.AllK
import Wide.FinOn
import HandS.ForMost
import HandS.ForExc
import HandS.IsInst
import HandS.Walk
import HandS.Style
import HandS.More
import HandS.FStr
import HandS.Zip
import KE.KEqNest
import KE.KDictZip
import PyProof.Rows.RuleB_bool
import HandS.ExcOwn
import HandS.ExcIs
import HandS.Exc
import HandS.ExcField
import KE.KExcIs
import HandS.ExcInit
import HandS.Conv
import PyProof.StrOps2
import HandS.TryOnly
import PyProof.ReprRoads
import KE.SortKeyHeap
import HandS.SortKw
import HandS.Star
import HandS.List
import PyProof.DelItemList
import HandS.TupAny
import HandS.Flow
import PyProof.StrLawsRepr
import PySem.Challenge.RW_formatfit_k19_reading_again
set_option Elab.async false
set_option linter.all false
set_option maxRecDepth 100000
/-! Fm: data without a heap, a store of cells that may change, and what a reading makes of them. -/
namespace Fm
open PySem L2

/-- data that nothing changes any more -/
inductive D where
  | non | bl (b : Bool) | int (i : Int) | str (s : Str) | lst (xs : List D) | tup (xs : List D) | dct (kvs : List (Key × D)) | kl (ns : List Int)
/-- a value: data, or the n-th cell of the store -/
inductive T where
  | d (x : D) | p (n : Nat)
/-- what a cell holds: a list, a dict, an instance; or data that it has become -/
inductive Cell where
  | lst (xs : List T) | dct (kvs : List (Key × T)) | dcu (kvs : List (List Key × T)) | obj (C : Str) (fs : List (Str × T)) | frz (x : D)
def Cell.live : Cell → Bool
  | .frz _ => false
  | _ => true
abbrev Mu := List Cell
/-- an error in the air: its class, its fields -/
structure Exn where
  cls : Str
  fs : Option (List (Str × D))
inductive Rs (α : Type) where
  | ok (a : α) (μ : Mu)
  | ex (x : Exn) (μ : Mu)
abbrev M (α : Type) := Mu → Option (Rs α)
@[simp] def mret {α : Type} (a : α) : M α := fun μ => some (.ok a μ)
@[simp] def mbind {α β : Type} (f : M α) (g : α → M β) : M β := fun μ => match f μ with
  | none => none
  | some (.ex x μ') => some (.ex x μ')
  | some (.ok a μ') => g a μ'
def mstuck {α : Type} : M α := fun _ => none
@[simp] def mof {α : Type} (o : Option α) : M α := fun μ => match o with
  | none => none
  | some a => some (.ok a μ)

/-! ### what stands for data in a heap -/
section
variable (K : PySem.W.Frag)
mutual
def Rep (F : Hp) : D → V → Prop
  | .non, v => v = .non
  | .bl b, v => v = .bl b
  | .int i, v => v = .int i
  | .str s, v => v = .str s
  | .lst ds, v => ∃ a vs, v = .ref a ∧ F a = some (.lst vs) ∧ Reps F ds vs
  | .tup ds, v => ∃ a vs, v = .ref a ∧ F a = some (.tup vs) ∧ Reps F ds vs
  | .dct kvs, v => ∃ a ws, v = .ref a ∧ Rd F a (.dK ws) ∧ RepK F kvs ws
  | .kl ns, v => ∃ a, v = .ref a ∧ SqL K F a (ns.map V.int)
def Reps (F : Hp) : List D → List V → Prop
  | [], vs => vs = []
  | d :: ds, vs => ∃ v r, vs = v :: r ∧ Rep F d v ∧ Reps F ds r
def RepK (F : Hp) : List (Key × D) → List (Key × V) → Prop
  | [], ws => ws = []
  | (k, d) :: r, ws => ∃ v q, ws = (k, v) :: q ∧ Rep F d v ∧ RepK F r q
end
end
theorem same_rd {F F' : Hp} (e : Same F F') {a : Addr} {u : HO} (h : Rd F a u) : Rd F' a u := h.elim (fun q => .inl (e _ _ q)) fun ⟨o, q⟩ => .inr ⟨o, e _ _ q⟩
section
variable {K : PySem.W.Frag} {F F' : Hp}
mutual
theorem Rep.mono (e : Same F F') : ∀ {d : D} {v : V}, Rep K F d v → Rep K F' d v
  | .non, v, h => h
  | .bl b, v, h => h
  | .int i, v, h => h
  | .str s, v, h => h
  | .lst ds, v, ⟨a, vs, h1, h2, h3⟩ => ⟨a, vs, h1, e _ _ h2, Reps.mono e h3⟩
  | .tup ds, v, ⟨a, vs, h1, h2, h3⟩ => ⟨a, vs, h1, e _ _ h2, Reps.mono e h3⟩
  | .dct kvs, v, ⟨a, vs, h1, h2, h3⟩ => ⟨a, vs, h1, same_rd e h2, RepK.mono e h3⟩
  | .kl ns, v, ⟨a, h1, h2⟩ => ⟨a, h1, e.seq h2⟩
theorem Reps.mono (e : Same F F') : ∀ {ds : List D} {vs : List V}, Reps K F ds vs → Reps K F' ds vs
  | [], _, h => h
  | d :: ds, _, ⟨v, r, h1, h2, h3⟩ => ⟨v, r, h1, Rep.mono e h2, Reps.mono e h3⟩
theorem RepK.mono (e : Same F F') : ∀ {ds : List (Key × D)} {vs : List (Key × V)}, RepK K F ds vs → RepK K F' ds vs
  | [], _, h => h
  | (k, d) :: ds, _, ⟨v, r, h1, h2, h3⟩ => ⟨v, r, h1, Rep.mono e h2, RepK.mono e h3⟩
end
theorem Reps.paired : ∀ {ds : List D} {vs : List V}, Reps K F ds vs ↔ Paired (Rep K F) ds vs
  | [], vs => ⟨fun h => by rw [show vs = [] from h]; exact .nil, fun h => by cases h; rfl⟩
  | d :: ds, vs => ⟨fun ⟨v, r, h1, h2, h3⟩ => by rw [h1]; exact .cons h2 (Reps.paired.mp h3), fun h => by
      cases h with
      | cons h2 h3 => exact ⟨_, _, rfl, h2, Reps.paired.mpr h3⟩⟩
theorem RepK.paired : ∀ {ds : List (Key × D)} {vs : List (Key × V)}, RepK K F ds vs ↔ Paired (fun p q => p.1 = q.1 ∧ Rep K F p.2 q.2) ds vs
  | [], vs => ⟨fun h => by rw [show vs = [] from h]; exact .nil, fun h => by cases h; rfl⟩
  | (k, d) :: ds, vs => ⟨fun ⟨v, r, h1, h2, h3⟩ => by rw [h1]; exact .cons ⟨rfl, h2⟩ (RepK.paired.mp h3), fun h => by
      cases h with
      | @cons a b l1 l2 h2 h3 =>
        obtain ⟨k', v'⟩ := b
        obtain ⟨e1, e2⟩ := h2
        cases e1
        exact ⟨_, _, rfl, e2, RepK.paired.mpr h3⟩⟩
end
/-- a list pair by pair: lengths, places, ends -/
theorem pd_len {α β : Type} {R : α → β → Prop} {l : List α} {m : List β} (h : Paired R l m) : l.length = m.length := Paired.length h
theorem pd_get {α β : Type} {R : α → β → Prop} : ∀ {l : List α} {m : List β} {i : Nat} {a : α}, Paired R l m → l[i]? = some a → ∃ b, m[i]? = some b ∧ R a b
  | _, _, i, a, .nil, e => by simp at e
  | _, _, 0, a, .cons h _, e => by simp at e; subst e; exact ⟨_, rfl, h⟩
  | _, _, i + 1, a, .cons _ t, e => by
    obtain ⟨b, h1, h2⟩ := pd_get (i := i) (a := a) t (by simpa using e)
    exact ⟨b, by simpa using h1, h2⟩
theorem pd_get' {α β : Type} {R : α → β → Prop} : ∀ {l : List α} {m : List β} {i : Nat} {b : β}, Paired R l m → m[i]? = some b → ∃ a, l[i]? = some a ∧ R a b
  | _, _, i, a, .nil, e => by simp at e
  | _, _, 0, a, .cons h _, e => by simp at e; subst e; exact ⟨_, rfl, h⟩
  | _, _, i + 1, a, .cons _ t, e => by
    obtain ⟨b, h1, h2⟩ := pd_get' (i := i) (b := a) t (by simpa using e)
    exact ⟨b, by simpa using h1, h2⟩
theorem pd_imp {α β : Type} {R S : α → β → Prop} (h : ∀ a b, R a b → S a b) : ∀ {l : List α} {m : List β}, Paired R l m → Paired S l m
  | _, _, .nil => .nil
  | _, _, .cons a b => .cons (h _ _ a) (pd_imp h b)
theorem pd_app {α β : Type} {R : α → β → Prop} : ∀ {l l' : List α} {m m' : List β}, Paired R l m → Paired R l' m' → Paired R (l ++ l') (m ++ m')
  | _, _, _, _, .nil, h => h
  | _, _, _, _, .cons a b, h => .cons a (pd_app b h)
theorem pd_set {α β : Type} {R : α → β → Prop} {a : α} {b : β} (r : R a b) : ∀ {l : List α} {m : List β} (i : Nat), Paired R l m → Paired R (l.set i a) (m.set i b)
  | _, _, _, .nil => .nil
  | _, _, 0, .cons _ t => .cons r t
  | _, _, i + 1, .cons q t => .cons q (pd_set r i t)
theorem pd_take {α β : Type} {R : α → β → Prop} : ∀ {l : List α} {m : List β} (n : Nat), Paired R l m → Paired R (l.take n) (m.take n)
  | _, _, 0, _ => .nil
  | _, _, _ + 1, .nil => .nil
  | _, _, n + 1, .cons r t => .cons r (pd_take n t)
theorem pd_drop {α β : Type} {R : α → β → Prop} : ∀ {l : List α} {m : List β} (n : Nat), Paired R l m → Paired R (l.drop n) (m.drop n)
  | _, _, 0, h => h
  | _, _, _ + 1, .nil => .nil
  | _, _, n + 1, .cons _ t => pd_drop n t
theorem pd_map {α β α' β' : Type} {R : α → β → Prop} {S : α' → β' → Prop} (f : α → α') (g : β → β') (h : ∀ a b, R a b → S (f a) (g b)) : ∀ {l : List α} {m : List β}, Paired R l m → Paired S (l.map f) (m.map g)
  | _, _, .nil => .nil
  | _, _, .cons a b => .cons (h _ _ a) (pd_map f g h b)

/-- a value over frozen data and the cells' addresses -/
def RepT (K : PySem.W.Frag) (F : Hp) (A : List Addr) : T → V → Prop
  | .d x, v => Rep K F x v
  | .p n, v => ∃ a, A[n]? = some a ∧ v = .ref a
theorem RepT.mono {K : PySem.W.Frag} {F F' : Hp} {A A' : List Addr} (e : Same F F') (p : A <+: A') {t : T} {v : V} (h : RepT K F A t v) : RepT K F' A' t v := by
  cases t with
  | d x => exact Rep.mono e h
  | p n =>
    obtain ⟨a, h1, h2⟩ := h
    obtain ⟨r, rfl⟩ := p
    exact ⟨a, by rw [List.getElem?_append_left (List.getElem?_eq_some_iff.mp h1).1]; exact h1, h2⟩

/-- the world: what is frozen, all that is tracked, where the cells are, what they hold -/
structure Wd where
  F : Hp
  H : Hp
  A : List Addr
  μ : Mu
def Wd.live (w : Wd) (b : Addr) : Prop := ∃ (n : Nat) (c : Cell), w.A[n]? = some b ∧ w.μ[n]? = some c ∧ c.live = true
abbrev Wd.t (K : PySem.W.Frag) (w : Wd) : T → V → Prop := RepT K w.F w.A
/-- the class called so stands at C -/
def clsAt (K : PySem.W.Frag) (c : Str) (C : Addr) : Prop := PySem.W.nsIn K mainGlobals c = some (some (.ref C))
theorem clsAt.uniq {K : PySem.W.Frag} {c : Str} {C D : Addr} (h : clsAt K c C) (h' : clsAt K c D) : C = D := by
  unfold clsAt at h h'
  rw [h] at h'
  simpa using h'
def CellOk (K : PySem.W.Frag) (w : Wd) (b : Addr) : Cell → Prop
  | .lst xs => w.F b = none ∧ ∃ vs, w.H b = some (.lst vs) ∧ Paired (w.t K) xs vs
  | .dct kvs => w.F b = none ∧ ∃ ws, w.H b = some (.dK ws) ∧ Paired (fun p q => p.1 = q.1 ∧ w.t K p.2 q.2) kvs ws
  | .dcu kvs => w.F b = none ∧ ∃ ws, w.H b = some (.dT ws) ∧ Paired (fun p q => p.1 = q.1 ∧ w.t K p.2 q.2) kvs ws
  | .obj c fs => w.F b = none ∧ ∃ dx gs C, clsAt K c C ∧ w.H b = some (.ins C dx gs) ∧ Paired (fun p q => p.1 = q.1 ∧ w.t K p.2 q.2) fs gs
  | .frz x => Rep K w.F x (.ref b)
structure StOk (K : PySem.W.Frag) (w : Wd) : Prop where
  sub : Same w.F w.H
  len : w.A.length = w.μ.length
  nd : w.A.Nodup
  tr : ∀ b ∈ w.A, w.H b ≠ none
  cell : ∀ (n : Nat) (b : Addr) (c : Cell), w.A[n]? = some b → w.μ[n]? = some c → CellOk K w b c
structure Ext (w w' : Wd) : Prop where
  sub : Same w.F w'.F
  pre : w.A <+: w'.A
  dom : ∀ b, w'.H b = none → w.H b = none
  keep : ∀ b o, w.H b = some o → ¬ w.live b → w'.H b = some o
  capt : ∀ b, w.F b = none → w.H b ≠ none → ¬ w.live b → w'.F b = none
  lv : ∀ b, w'.live b → w.H b ≠ none → w.live b
  new : ∀ b, b ∈ w'.A → w.H b ≠ none → b ∈ w.A
theorem Ext.refl (w : Wd) : Ext w w := ⟨Same.refl _, List.prefix_refl _, fun _ h => h, fun _ _ h _ => h, fun _ h _ _ => h, fun _ h _ => h, fun _ h _ => h⟩
theorem Ext.trans {w w1 w2 : Wd} (a : Ext w w1) (b : Ext w1 w2) : Ext w w2 where
  sub := a.sub.trans b.sub
  pre := a.pre.trans b.pre
  dom := fun x h => a.dom x (b.dom x h)
  keep := fun x o h l => b.keep x o (a.keep x o h l) fun l1 => l (a.lv x l1 (by rw [h]; simp))
  capt := fun x h n l => b.capt x (a.capt x h n l) (fun q => n (a.dom x q)) fun l1 => l (a.lv x l1 n)
  lv := fun x h n => a.lv x (b.lv x h fun q => n (a.dom x q)) n
  new := fun x h n => a.new x (b.new x h fun q => n (a.dom x q)) n
theorem Ext.t {K : PySem.W.Frag} {w w' : Wd} (e : Ext w w') {x : T} {v : V} (h : w.t K x v) : w'.t K x v := RepT.mono e.sub e.pre h
theorem StOk.fs {K : PySem.W.Frag} {w : Wd} (s : StOk K w) {b : Addr} (h : w.H b = none) : w.F b = none := by
  cases q : w.F b with
  | none => rfl
  | some o => rw [s.sub b o q] at h; cases h
theorem StOk.liveF {K : PySem.W.Frag} {w : Wd} (s : StOk K w) {b : Addr} (h : w.live b) : w.F b = none ∧ w.H b ≠ none := by
  obtain ⟨n, c, h1, h2, h3⟩ := h
  have q := s.cell n b c h1 h2
  cases c with
  | lst => obtain ⟨z, vs, e, _⟩ := q; exact ⟨z, by rw [e]; simp⟩
  | dct => obtain ⟨z, vs, e, _⟩ := q; exact ⟨z, by rw [e]; simp⟩
  | dcu => obtain ⟨z, vs, e, _⟩ := q; exact ⟨z, by rw [e]; simp⟩
  | obj => obtain ⟨z, dx, vs, C, _, e, _⟩ := q; exact ⟨z, by rw [e]; simp⟩
  | frz => cases h3
end Fm
set_option Elab.async false
set_option linter.all false
set_option maxRecDepth 100000
namespace Fm
open PySem L2

def ExnOk (K : PySem.W.Frag) (w : Wd) (x : Exn) (cls : Value) (d : Option Addr) : Prop :=
  (∃ C, clsAt K x.cls C ∧ cls = .ref C) ∧ match x.fs with
    | none => d = none
    | some fs => ∃ a gs, d = some a ∧ w.F a = some (.xd gs) ∧ Paired (fun p q => p.1 = q.1 ∧ Rep K w.F p.2 q.2) fs gs
abbrev RT (α β : Type) := Wd → Wd → α → β → Prop
/-- from the world w on, the reading t does what f says -/
def At {α β : Type} (K : PySem.W.Frag) (E : XK) (w : Wd) (t : (β → Hp → Prop) → Prop) (f : M α) (R : RT α β) : Prop :=
  StOk K w → ∀ r, f w.μ = some r → ∀ Q : β → Hp → Prop,
    (∀ a w' b, r = .ok a w'.μ → Ext w w' → StOk K w' → R w w' a b → Q b w'.H) →
    (∀ x w' cls d, r = .ex x w'.μ → Ext w w' → StOk K w' → ExnOk K w' x cls d → E cls d w'.H) → t Q
section
variable {K : PySem.W.Frag} {E : XK} {α β γ δ : Type}
theorem At.ret {w : Wd} {a : α} {b : β} {R : RT α β} (h : R w w a b) : At K E w (fun Q => Q b w.H) (mret a) R := fun s r e Q q _ => by
  cases e
  exact q a w b rfl (Ext.refl w) s h
theorem At.bind {w : Wd} {t : (β → Hp → Prop) → Prop} {f : M α} {R : RT α β} {u : β → Hp → (δ → Hp → Prop) → Prop} {g : α → M γ} {R2 : RT γ δ} (hm : ∀ w w1 w2 a b, Ext w w1 → R2 w1 w2 a b → R2 w w2 a b) (h1 : At K E w t f R)
    (h2 : ∀ a b w1, Ext w w1 → StOk K w1 → R w w1 a b → At K E w1 (u b w1.H) (g a) R2) : At K E w (fun Q => t fun b H1 => u b H1 Q) (mbind f g) R2 := fun s r e Q q x => by
  unfold mbind at e
  cases hf : f w.μ with
  | none => rw [hf] at e; cases e
  | some r1 =>
    rw [hf] at e
    cases r1 with
    | ex y μ1 =>
      cases e
      refine h1 s _ hf _ (fun a w' b z => by cases z) fun y' w' cls d z e1 s1 k => ?_
      cases z
      exact x _ w' cls d rfl e1 s1 k
    | ok a μ1 =>
      refine h1 s _ hf _ (fun a' w1 b z e1 s1 k => ?_) fun _ _ _ _ z => by cases z
      cases z
      refine h2 _ _ w1 e1 s1 k s1 r e Q (fun c w2 d' z e2 s2 k2 => ?_) fun y w2 cls d' z e2 s2 k2 => ?_
      · exact q c w2 d' z (e1.trans e2) s2 (hm _ _ _ _ _ e1 k2)
      · exact x y w2 cls d' z (e1.trans e2) s2 k2
/-- the same by another function that tells no more, another relation that asks no more -/
theorem At.imp {w : Wd} {t : (β → Hp → Prop) → Prop} {f : M α} {R R' : RT α β} (h : At K E w t f R) (hr : ∀ w' a b, Ext w w' → StOk K w' → R w w' a b → R' w w' a b) : At K E w t f R' := fun s r e Q q x =>
  h s r e Q (fun a w' b z e1 s1 k => q a w' b z e1 s1 (hr w' a b e1 s1 k)) x
theorem At.wk {w : Wd} {t t' : (β → Hp → Prop) → Prop} {f : M α} {R : RT α β} (h : At K E w t f R) (ht : ∀ Q, t Q → t' Q) : At K E w t' f R := fun s r e Q q x => ht Q (h s r e Q q x)
/-- a step that asks nothing of the store -/
theorem At.pure {w : Wd} {t : (β → Hp → Prop) → Prop} {o : Option α} {R : RT α β} (h : StOk K w → ∀ a, o = some a → ∃ b, R w w a b ∧ ∀ Q, Q b w.H → t Q) : At K E w t (mof o) R := fun s r e Q q _ => by
  unfold mof at e
  cases o with
  | none => cases e
  | some a =>
    cases e
    obtain ⟨b, h1, h2⟩ := h s a rfl
    exact h2 Q (q a w b rfl (Ext.refl w) s h1)
end

/-! ### what an expression gives: a value, a truth, arguments, a new object -/
abbrev Rho := List (Option T)
def EnvOk (K : PySem.W.Frag) (w : Wd) (σ : St) (ρ : Rho) : Prop := σ.length = ρ.length ∧ ∀ (i : Nat) (x : T), ρ[i]? = some (some x) → ∃ v, σ[i]? = some (some v) ∧ w.t K x v
theorem EnvOk.ext {K : PySem.W.Frag} {w w' : Wd} {σ : St} {ρ : Rho} (h : EnvOk K w σ ρ) (e : Ext w w') : EnvOk K w' σ ρ := ⟨h.1, fun i x hx => by
  obtain ⟨v, h1, h2⟩ := h.2 i x hx
  exact ⟨v, h1, e.t h2⟩⟩
def RV (K : PySem.W.Frag) : RT T V := fun _ w' x v => w'.t K x v
def RB : RT Bool Bool := fun _ _ a b => a = b
def RL (K : PySem.W.Frag) : RT (List T) (List V) := fun _ w' xs vs => Paired (w'.t K) xs vs
/-- a new object: nothing else knows it yet -/
def RC (K : PySem.W.Frag) : RT Cell V := fun w w' c v => ∃ p, v = .ref p ∧ w.H p = none ∧ p ∉ w'.A ∧ c.live = true ∧ CellOk K w' p c
abbrev EF := Rho → M T
abbrev TF := Rho → M Bool
abbrev AF := Rho → M (List T)
abbrev CF := Rho → M Cell
def EOk (K : PySem.W.Frag) (E : XK) (t : TE) (f : EF) : Prop := ∀ w σ ρ, EnvOk K w σ ρ → At K E w (t σ w.H) (f ρ) (RV K)
def BOk (K : PySem.W.Frag) (E : XK) (t : TT) (f : TF) : Prop := ∀ w σ ρ, EnvOk K w σ ρ → At K E w (t σ w.H) (f ρ) RB
def LOk (K : PySem.W.Frag) (E : XK) (t : TA) (f : AF) : Prop := ∀ w σ ρ, EnvOk K w σ ρ → At K E w (t σ w.H) (f ρ) (RL K)
def COk (K : PySem.W.Frag) (E : XK) (t : TE) (f : CF) : Prop := ∀ w σ ρ, EnvOk K w σ ρ → At K E w (t σ w.H) (f ρ) (RC K)
theorem rv_m {K : PySem.W.Frag} : ∀ w w1 w2 a b, Ext w w1 → RV K w1 w2 a b → RV K w w2 a b := fun _ _ _ _ _ _ h => h
theorem rb_m : ∀ w w1 w2 a b, Ext w w1 → RB w1 w2 a b → RB w w2 a b := fun _ _ _ _ _ _ h => h
theorem rl_m {K : PySem.W.Frag} : ∀ w w1 w2 a b, Ext w w1 → RL K w1 w2 a b → RL K w w2 a b := fun _ _ _ _ _ _ h => h
theorem rc_m {K : PySem.W.Frag} : ∀ w w1 w2 a b, Ext w w1 → RC K w1 w2 a b → RC K w w2 a b := fun _ _ _ _ _ e ⟨p, h1, h2, h3⟩ => ⟨p, h1, e.dom _ h2, h3⟩

/-- a cell that has become data is read as the data -/
def fzAt (μ : Mu) (n : Nat) : Option D := match μ[n]? with
  | some (.frz x) => some x
  | _ => none
theorem fzAt_some {μ : Mu} {n : Nat} {x : D} (h : fzAt μ n = some x) : μ[n]? = some (.frz x) := by
  unfold fzAt at h
  cases q : μ[n]? with
  | none => rw [q] at h; cases h
  | some c =>
    rw [q] at h
    cases c <;> cases h
    rfl
@[simp] def rd (μ : Mu) : T → T
  | .d x => .d x
  | .p n => match fzAt μ n with
    | some x => .d x
    | none => .p n
theorem rd_p {μ : Mu} {n : Nat} : rd μ (.p n) = match fzAt μ n with
    | some x => T.d x
    | none => T.p n := rfl
theorem rd_ok {K : PySem.W.Frag} {w : Wd} (s : StOk K w) {x : T} {v : V} (h : w.t K x v) : w.t K (rd w.μ x) v := by
  cases x with
  | d x => exact h
  | p n =>
    obtain ⟨a, h1, h2⟩ := id h
    rw [rd_p]
    cases q : fzAt w.μ n with
    | none => exact h
    | some y =>
      have z := s.cell n a _ h1 (fzAt_some q)
      rw [h2]
      exact z

/-! ### freezing: a new object, or a cell, becomes data -/
def dT : T → Option D
  | .d x => some x
  | _ => none
def dTs (μ : Mu) : List T → Option (List D)
  | [] => some []
  | x :: r => match rd μ x, dTs μ r with
    | .d y, some ys => some (y :: ys)
    | _, _ => none
def dKs {κ : Type} (μ : Mu) : List (κ × T) → Option (List (κ × D))
  | [] => some []
  | (k, x) :: r => match rd μ x, dKs μ r with
    | .d y, some ys => some ((k, y) :: ys)
    | _, _ => none
def Cell.data (μ : Mu) : Cell → Option D
  | .lst xs => (dTs μ xs).map D.lst
  | .dct kvs => (dKs μ kvs).map D.dct
  | .frz x => some x
  | .obj _ _ => none
  | .dcu _ => none
section
variable {K : PySem.W.Frag} {w : Wd}
theorem dTs_ok (s : StOk K w) : ∀ {xs : List T} {vs : List V} {ds : List D}, Paired (w.t K) xs vs → dTs w.μ xs = some ds → Reps K w.F ds vs
  | [], _, _, .nil, e => by cases e; rfl
  | x :: xs, v :: vs, ds, .cons h t, e => by
    unfold dTs at e
    have q := rd_ok s h
    split at e
    · rename_i y ys h1 h2
      cases e
      rw [h1] at q
      exact ⟨v, vs, rfl, q, dTs_ok s t h2⟩
    · cases e
theorem dKs_ok (s : StOk K w) : ∀ {xs : List (Key × T)} {vs : List (Key × V)} {ds : List (Key × D)}, Paired (fun p q => p.1 = q.1 ∧ w.t K p.2 q.2) xs vs → dKs w.μ xs = some ds → RepK K w.F ds vs
  | [], _, _, .nil, e => by cases e; rfl
  | (k, x) :: xs, (k', v) :: vs, ds, .cons h t, e => by
    unfold dKs at e
    obtain ⟨h0, h⟩ := h
    cases h0
    have q := rd_ok s h
    split at e
    · rename_i y ys h1 h2
      cases e
      rw [h1] at q
      exact ⟨v, vs, rfl, q, dKs_ok s t h2⟩
    · cases e
/-- the world with one more frozen address -/
def Wd.fz (w : Wd) (p : Addr) (μ' : Mu) : Wd := { w with F := fun b => if b = p then w.H p else w.F b, μ := μ' }
theorem fz_same {p : Addr} (h : w.F p = none) (μ' : Mu) : Same w.F (w.fz p μ').F := fun b o e => by
  show (if b = p then w.H p else w.F b) = some o
  rw [if_neg (fun q => by rw [q, h] at e; cases e)]
  exact e
theorem fz_at {p : Addr} {o : HO} {μ' : Mu} (h : w.H p = some o) : (w.fz p μ').F p = some o := by
  show (if p = p then w.H p else w.F p) = some o
  rw [if_pos rfl]
  exact h
theorem data_rep (s : StOk K w) {p : Addr} {c : Cell} {x : D} (hc : CellOk K w p c) (hx : c.data w.μ = some x) (hl : c.live = true) (μ' : Mu) : Rep K (w.fz p μ').F x (.ref p) := by
  cases c with
  | frz => cases hl
  | obj => cases hx
  | dcu => cases hx
  | lst xs =>
    obtain ⟨h0, vs, h1, h2⟩ := hc
    obtain ⟨ds, e1, e2⟩ := Option.map_eq_some_iff.mp hx
    cases e2
    exact ⟨p, vs, rfl, fz_at h1, (dTs_ok s h2 e1).mono (fz_same h0 μ')⟩
  | dct kvs =>
    obtain ⟨h0, vs, h1, h2⟩ := hc
    obtain ⟨ds, e1, e2⟩ := Option.map_eq_some_iff.mp hx
    cases e2
    exact ⟨p, vs, rfl, .inl (fz_at h1), (dKs_ok s h2 e1).mono (fz_same h0 μ')⟩
theorem CellOk.rep {w w' : Wd} {b : Addr} {c : Cell} (h : CellOk K w b c) (hs : Same w.F w'.F) (hp : w.A <+: w'.A) (hF : c.live = true → w'.F b = none) (hH : c.live = true → w'.H b = w.H b) : CellOk K w' b c := by
  have m : ∀ x v, w.t K x v → w'.t K x v := fun x v q => RepT.mono hs hp q
  cases c with
  | frz x => exact Rep.mono hs h
  | lst xs =>
    obtain ⟨h0, vs, h1, h2⟩ := h
    exact ⟨hF rfl, vs, by rw [hH rfl]; exact h1, pd_imp m h2⟩
  | dct xs =>
    obtain ⟨h0, vs, h1, h2⟩ := h
    exact ⟨hF rfl, vs, by rw [hH rfl]; exact h1, pd_imp (fun _ _ q => ⟨q.1, m _ _ q.2⟩) h2⟩
  | dcu xs =>
    obtain ⟨h0, vs, h1, h2⟩ := h
    exact ⟨hF rfl, vs, by rw [hH rfl]; exact h1, pd_imp (fun _ _ q => ⟨q.1, m _ _ q.2⟩) h2⟩
  | obj C xs =>
    obtain ⟨h0, dx, vs, D, hD, h1, h2⟩ := h
    exact ⟨hF rfl, dx, vs, D, hD, by rw [hH rfl]; exact h1, pd_imp (fun _ _ q => ⟨q.1, m _ _ q.2⟩) h2⟩
theorem CellOk.nn {b : Addr} {c : Cell} (h : CellOk K w b c) (l : c.live = true) : w.F b = none ∧ ∃ o, w.H b = some o := by
  cases c with
  | frz => cases l
  | lst => obtain ⟨z, vs, e, _⟩ := h; exact ⟨z, _, e⟩
  | dct => obtain ⟨z, vs, e, _⟩ := h; exact ⟨z, _, e⟩
  | dcu => obtain ⟨z, vs, e, _⟩ := h; exact ⟨z, _, e⟩
  | obj => obtain ⟨z, dx, vs, C, _, e, _⟩ := h; exact ⟨z, _, e⟩
/-- a new object that is not a cell becomes frozen -/
theorem fz_new (s : StOk K w) {p : Addr} {c : Cell} (hA : p ∉ w.A) (hc : CellOk K w p c) (hl : c.live = true) : StOk K (w.fz p w.μ) := by
  obtain ⟨h0, o, ho⟩ := hc.nn hl
  refine ⟨fun b o' e => ?_, s.len, s.nd, s.tr, fun n b c' e1 e2 => ?_⟩
  · show w.H b = some o'
    by_cases hb : b = p
    · subst hb
      have e : (if b = b then w.H b else w.F b) = some o' := e
      rw [if_pos rfl] at e
      exact e
    · have e : (if b = p then w.H p else w.F b) = some o' := e
      rw [if_neg hb] at e
      exact s.sub b o' e
  · refine (s.cell n b c' e1 e2).rep (fz_same h0 w.μ) (List.prefix_refl _) (fun l => ?_) fun _ => rfl
    show (if b = p then w.H p else w.F b) = none
    rw [if_neg (fun z => hA (by rw [← z]; exact List.mem_of_getElem? e1))]
    exact ((s.cell n b c' e1 e2).nn l).1
theorem fz_new_ext {w0 : Wd} {p : Addr} {c : Cell} (e : Ext w0 w) (hp : w0.H p = none) (hc : CellOk K w p c) (hl : c.live = true) : Ext w0 (w.fz p w.μ) where
  sub := e.sub.trans (fz_same (hc.nn hl).1 w.μ)
  pre := e.pre
  dom := e.dom
  keep := e.keep
  capt := fun b h1 h2 h3 => by
    show (if b = p then w.H p else w.F b) = none
    rw [if_neg (fun z => h2 (by rw [z]; exact hp))]
    exact e.capt b h1 h2 h3
  lv := e.lv
  new := e.new
def fzC (c : Cell) : M T := fun μ => match c.data μ with
  | some x => some (.ok (.d x) μ)
  | none => none
/-- a new object at once taken as data -/
def eFz (f : CF) : EF := fun ρ => mbind (f ρ) fzC
theorem eok_fz {E : XK} {t : TE} {f : CF} (h : COk K E t f) : EOk K E t (eFz f) := fun w σ ρ ev s r e Q q x => by
  unfold eFz mbind at e
  cases hf : f ρ w.μ with
  | none => rw [hf] at e; cases e
  | some r1 =>
    rw [hf] at e
    cases r1 with
    | ex y μ1 =>
      cases e
      exact h w σ ρ ev s _ hf Q (fun a w' b z => by cases z) fun y' w' cls d z => by cases z; exact x _ w' cls d rfl
    | ok c μ1 =>
      refine h w σ ρ ev s _ hf Q (fun a w' b z e1 s1 k => ?_) fun _ _ _ _ z => by cases z
      cases z
      obtain ⟨p, rfl, hp, hA, hl, hc⟩ := k
      have e : fzC c w'.μ = some r := e
      unfold fzC at e
      cases hd : c.data w'.μ with
      | none => rw [hd] at e; cases e
      | some y =>
        rw [hd] at e
        cases e
        exact q (.d y) (w'.fz p w'.μ) (.ref p) rfl (fz_new_ext e1 hp hc hl) (fz_new s1 hA hc hl) (data_rep s1 hc hd hl w'.μ)
/-- a new object becomes a cell -/
def nwC (c : Cell) : M T := fun μ => some (.ok (.p μ.length) (μ ++ [c]))
def eNew (f : CF) : EF := fun ρ => mbind (f ρ) nwC
theorem get_snoc {α : Type} {l : List α} {a x : α} {n : Nat} (h : (l ++ [a])[n]? = some x) : l[n]? = some x ∨ (n = l.length ∧ x = a) := by
  by_cases hn : n < l.length
  · rw [List.getElem?_append_left hn] at h
    exact .inl h
  · have q := (List.getElem?_eq_some_iff.mp h).1
    rw [List.length_append, List.length_singleton] at q
    have e : n = l.length := by omega
    subst e
    rw [List.getElem?_append_right (Nat.le_refl _), Nat.sub_self] at h
    exact .inr ⟨rfl, (Option.some.inj h).symm⟩
def Wd.nw (w : Wd) (p : Addr) (c : Cell) : Wd := { w with A := w.A ++ [p], μ := w.μ ++ [c] }
theorem nw_ok (s : StOk K w) {p : Addr} {c : Cell} (hA : p ∉ w.A) (hl : c.live = true) (hc : CellOk K w p c) : StOk K (w.nw p c) := by
  refine ⟨s.sub, ?_, ?_, fun b hb => ?_, fun n b c' e1 e2 => ?_⟩
  · show (w.A ++ [p]).length = (w.μ ++ [c]).length
    rw [List.length_append, List.length_append, s.len] <;> rfl
  · show (w.A ++ [p]).Nodup
    rw [List.nodup_append]
    refine ⟨s.nd, by simp, fun a ha b hb => ?_⟩
    rw [List.mem_singleton.mp hb]
    intro z
    exact hA (z ▸ ha)
  · have hb : b ∈ w.A ++ [p] := hb
    rcases List.mem_append.mp hb with q | q
    · exact s.tr b q
    · rw [List.mem_singleton.mp q]
      obtain ⟨_, o, e⟩ := hc.nn hl
      show w.H p ≠ none
      rw [e]
      simp
  · have pre : w.A <+: (w.nw p c).A := ⟨[p], rfl⟩
    have e1 : (w.A ++ [p])[n]? = some b := e1
    have e2 : (w.μ ++ [c])[n]? = some c' := e2
    rcases get_snoc e1 with q1 | ⟨q1, q1'⟩
    · rcases get_snoc e2 with q2 | ⟨q2, _⟩
      · exact (s.cell n b c' q1 q2).rep (Same.refl _) pre (fun l => ((s.cell n b c' q1 q2).nn l).1) fun _ => rfl
      · have := (List.getElem?_eq_some_iff.mp q1).1
        rw [s.len] at this
        omega
    · rcases get_snoc e2 with q2 | ⟨_, q2'⟩
      · have := (List.getElem?_eq_some_iff.mp q2).1
        rw [← s.len] at this
        omega
      · rw [q1', q2']
        exact hc.rep (Same.refl _) pre (fun l => (hc.nn l).1) fun _ => rfl
theorem nw_ext {w0 : Wd} {p : Addr} {c : Cell} (s : StOk K w) (e : Ext w0 w) (hp : w0.H p = none) : Ext w0 (w.nw p c) where
  sub := e.sub
  pre := e.pre.trans ⟨[p], rfl⟩
  dom := e.dom
  keep := e.keep
  capt := e.capt
  lv := fun b ⟨n, c', e1, e2, e3⟩ h => by
    have e1 : (w.A ++ [p])[n]? = some b := e1
    have e2 : (w.μ ++ [c])[n]? = some c' := e2
    rcases get_snoc e1 with q1 | ⟨q1, q1'⟩
    · rcases get_snoc e2 with q2 | ⟨q2, _⟩
      · exact e.lv b ⟨n, c', q1, q2, e3⟩ h
      · have := (List.getElem?_eq_some_iff.mp q1).1
        rw [s.len] at this
        omega
    · exact absurd hp (by rw [← q1']; exact h)
  new := fun b h1 h2 => by
    have h1 : b ∈ w.A ++ [p] := h1
    rcases List.mem_append.mp h1 with q | q
    · exact e.new b q h2
    · rw [List.mem_singleton.mp q] at h2
      exact absurd hp h2
theorem eok_new {E : XK} {t : TE} {f : CF} (h : COk K E t f) : EOk K E t (eNew f) := fun w σ ρ ev s r e Q q x => by
  unfold eNew mbind at e
  cases hf : f ρ w.μ with
  | none => rw [hf] at e; cases e
  | some r1 =>
    rw [hf] at e
    cases r1 with
    | ex y μ1 =>
      cases e
      exact h w σ ρ ev s _ hf Q (fun a w' b z => by cases z) fun y' w' cls d z => by cases z; exact x _ w' cls d rfl
    | ok c μ1 =>
      refine h w σ ρ ev s _ hf Q (fun a w' b z e1 s1 k => ?_) fun _ _ _ _ z => by cases z
      cases z
      obtain ⟨p, rfl, hp, hA, hl, hc⟩ := k
      cases e
      refine q _ (w'.nw p c) (.ref p) rfl (nw_ext s1 e1 hp) (nw_ok s1 hA hl hc) ⟨p, ?_, rfl⟩
      show (w'.A ++ [p])[w'.μ.length]? = some p
      rw [← s1.len, List.getElem?_append_right (Nat.le_refl _), Nat.sub_self] <;> rfl
end
end Fm
set_option Elab.async false
set_option linter.all false
set_option maxRecDepth 100000
namespace Fm
open PySem L2

/-! ### an expression of the text and what it does over the store -/
structure PD (K : PySem.W.Frag) (X : Cx) (E : XK) (e : Expr) (t : TE) (f : EF) : Prop where
  pe : PE X e t
  ok : EOk K E t f
structure PCr (K : PySem.W.Frag) (X : Cx) (E : XK) (e : Expr) (t : TE) (f : CF) : Prop where
  pe : PE X e t
  ok : COk K E t f
structure PB (K : PySem.W.Frag) (X : Cx) (E : XK) (e : Expr) (t : TT) (f : TF) : Prop where
  pe : PT X e t
  ok : BOk K E t f
structure PWB (K : PySem.W.Frag) (X : Cx) (E : XK) (e : Expr) (t : TT) (f : TF) : Prop where
  pe : PW X e t
  ok : BOk K E t f
structure PL (K : PySem.W.Frag) (X : Cx) (E : XK) (es : List Expr) (t : TA) (f : AF) : Prop where
  pe : PA X es t
  ok : LOk K E t f
section
variable {X : Cx} {E : XK} {K : PySem.W.Frag}
theorem pd_fz {e : Expr} {t : TE} {f : CF} (h : PCr K X E e t f) : PD K X E e t (eFz f) := ⟨h.pe, eok_fz h.ok⟩
theorem pd_new {e : Expr} {t : TE} {f : CF} (h : PCr K X E e t f) : PD K X E e t (eNew f) := ⟨h.pe, eok_new h.ok⟩

/-! ### names, constants -/
@[simp] def slotT (ρ : Rho) (i : Nat) : Option T := match ρ[i]? with
  | some (some x) => some x
  | _ => none
theorem slotT_some {ρ : Rho} {i : Nat} {x : T} (h : slotT ρ i = some x) : ρ[i]? = some (some x) := by
  unfold slotT at h
  split at h
  · cases h; assumption
  · cases h
/-- a name as a value; a cell stays a cell -/
@[simp] def eVar (i : Nat) : EF := fun ρ => mof (slotT ρ i)
theorem pd_var (i : Nat) {x : Str} {pos : Pos} (hN : X.N[i]? = some x := by rfl) (hv : Vis X.env.scope x := by first | exact Or.inl rfl | exact Or.inr (Or.inl rfl) | exact Or.inr (Or.inr rfl)) (hd : (x == ("__debug__" : Str)) = false := by decide)
    (hcd : (x == ("__classdict__" : Str)) = false := by decide) : PD K X E (.Name x pos) (tVar i) (eVar i) :=
  ⟨pe_var hN hv hd hcd, fun w σ ρ ev => At.pure fun _ a ha => by
    obtain ⟨v, h1, h2⟩ := ev.2 i a (slotT_some ha)
    exact ⟨v, h2, fun Q q => ⟨v, h1, q⟩⟩⟩
@[simp] def eC (x : D) : EF := fun _ => mret (.d x)
theorem eok_c {v : V} {x : D} (h : ∀ F, Rep K F x v) : EOk K E (tC v) (eC x) := fun w σ ρ _ => At.ret (R := RV K) (h w.F)
theorem pd_int {i j pos} : PD K X E (.Constant (.int i) j pos) (tC (.int i)) (eC (.int i)) := ⟨pe_int, eok_c fun _ => rfl⟩
theorem pd_bl {b j pos} : PD K X E (.Constant (.bool b) j pos) (tC (.bl b)) (eC (.bl b)) := ⟨pe_bl, eok_c fun _ => rfl⟩
theorem pd_non {j pos} : PD K X E (.Constant .none j pos) (tC .non) (eC .non) := ⟨pe_non, eok_c fun _ => rfl⟩
theorem pd_str {x j pos} : PD K X E (.Constant (.str x) j pos) (tC (.str x)) (eC (.str x)) := ⟨pe_str, eok_c fun _ => rfl⟩
/-- a constant of the module -/
theorem pd_glob {x : Str} {v : V} {d : D} {u : Value} {pos : Pos} (hg : Gl X x) (hm : X.mg x = some u) (r : RelV v u) (h : ∀ F, Rep K F d v) (hd : (x == ("__debug__" : Str)) = false := by decide) : PD K X E (.Name x pos) (tC v) (eC d) :=
  ⟨pe_glob hg hm r hd, eok_c h⟩

/-! ### operations on values -/
abbrev G2 := Mu → T → T → Option T
def OpV (K : PySem.W.Frag) (r : R2) (g : G2) : Prop := ∀ (w : Wd) (x y : T) (vx vy : V) (z : T), StOk K w → w.t K x vx → w.t K y vy → g w.μ x y = some z → ∃ v, w.t K z v ∧ ∀ Q : VK, Q v w.H → r vx vy w.H Q
structure OpD (K : PySem.W.Frag) (X : Cx) (f : Value → Value → Sem Value) (r : R2) (g : G2) : Prop where
  op : OpR X f r
  ov : OpV K r g
@[simp] def g2or (g h : G2) : G2 := fun μ x y => match g μ x y with
  | some z => some z
  | none => h μ x y
theorem OpV.or {r q : R2} {g h : G2} (r2 : OpV K r g) (q2 : OpV K q h) : OpV K (fun x y H Q => r x y H Q ∨ q x y H Q) (g2or g h) := fun w x y vx vy z s hx hy e => by
  unfold g2or at e
  split at e
  · rename_i z' hz
    cases e
    obtain ⟨v, h1, h2⟩ := r2 w x y vx vy z s hx hy hz
    exact ⟨v, h1, fun Q k => .inl (h2 Q k)⟩
  · obtain ⟨v, h1, h2⟩ := q2 w x y vx vy z s hx hy e
    exact ⟨v, h1, fun Q k => .inr (h2 Q k)⟩
theorem OpD.or {f : Value → Value → Sem Value} {r q : R2} {g h : G2} (a : OpD K X f r g) (b : OpD K X f q h) : OpD K X f (fun x y H Q => r x y H Q ∨ q x y H Q) (g2or g h) := ⟨a.op.or b.op, a.ov.or b.ov⟩
/-- the step behind the operands -/
@[simp] def stp (g : G2) (x y : T) : M T := fun μ => match g μ (rd μ x) (rd μ y) with
  | some z => some (.ok z μ)
  | none => none
@[simp] def eOp (g : G2) (fa fb : EF) : EF := fun ρ => mbind (fa ρ) fun x => mbind (fb ρ) fun y => stp g x y
theorem at_stp {r : R2} {g : G2} (h : OpV K r g) {w : Wd} {x y : T} {vx vy : V} (hx : w.t K x vx) (hy : w.t K y vy) : At K E w (r vx vy w.H) (stp g x y) (RV K) := fun s q e Q k _ => by
  unfold stp at e
  split at e
  · rename_i z hz
    cases e
    obtain ⟨v, h1, h2⟩ := h w _ _ vx vy z s (rd_ok s hx) (rd_ok s hy) hz
    exact h2 Q (k z w v rfl (Ext.refl w) s h1)
  · cases e
theorem eok_op {r : R2} {g : G2} {ta tb : TE} {fa fb : EF} (h : OpV K r g) (ha : EOk K E ta fa) (hb : EOk K E tb fb) : EOk K E (tOp r ta tb) (eOp g fa fb) := fun w σ ρ ev => by
  show At K E w (fun Q => ta σ w.H fun x H1 => tb σ H1 fun y H2 => r x y H2 Q) _ _
  exact At.bind rv_m (ha w σ ρ ev) fun x vx w1 e1 s1 hx => At.bind rv_m (hb w1 σ ρ (ev.ext e1)) fun y vy w2 e2 s2 hy => at_stp h (e2.t hx) hy
section
variable {a b : Expr} {fa fb : EF} {g : G2} {r : R2} {ta tb : TE}
theorem pd_bin {op : Operator} {pos : Pos} (o : OpD K X (binaryOp op) r g) (ha : PD K X E a ta fa) (hb : PD K X E b tb fb) : PD K X E (.BinOp a op b pos) (tOp r ta tb) (eOp g fa fb) := ⟨pe_op o.op ha.pe hb.pe, eok_op o.ov ha.ok hb.ok⟩
theorem pd_cmp {op : CmpOp} {pos : Pos} (o : OpD K X (compareOp op) r g) (ha : PD K X E a ta fa) (hb : PD K X E b tb fb) (hm : behindInMarks op b = false := by first | exact nomark _ | rfl) : PD K X E (.Compare a [op] [b] pos) (tOp r ta tb) (eOp g fa fb) :=
  ⟨pe_cmpR o.op ha.pe hb.pe hm, eok_op o.ov ha.ok hb.ok⟩
/-- a truth of a value that is True or False -/
@[simp] def bOf (x : T) : M Bool := fun μ => match rd μ x with
  | .d (.bl b) => some (.ok b μ)
  | _ => none
@[simp] def bE (f : EF) : TF := fun ρ => mbind (f ρ) bOf
theorem at_bOf {w : Wd} {x : T} {v : V} (h : w.t K x v) : At K E w (fun Q : Bool → Hp → Prop => ∃ k, v = .bl k ∧ Q k w.H) (bOf x) RB := fun s q e Q k _ => by
  unfold bOf at e
  have h := rd_ok s h
  split at e
  · rename_i b hb
    cases e
    rw [hb] at h
    exact ⟨b, h, k b w b rfl (Ext.refl w) s rfl⟩
  · cases e
theorem bok_E {t : TE} {f : EF} (h : EOk K E t f) : BOk K E (tTest t) (bE f) := fun w σ ρ ev => by
  show At K E w (fun Q => t σ w.H fun x H1 => ∃ k, x = .bl k ∧ Q k H1) _ _
  exact At.bind rb_m (h w σ ρ ev) fun x v w1 _ _ hx => at_bOf hx
theorem pb_cmp {op : CmpOp} {pos : Pos} (o : OpD K X (compareOp op) r g) (ha : PD K X E a ta fa) (hb : PD K X E b tb fb) (hm : behindInMarks op b = false := by first | exact nomark _ | rfl) : PB K X E (.Compare a [op] [b] pos) (tTest (tOp r ta tb)) (bE (eOp g fa fb)) :=
  ⟨pt_cmpR o.op ha.pe hb.pe hm, bok_E (eok_op o.ov ha.ok hb.ok)⟩
/-- a < b < c -/
def eChain (g g' : G2) (fa fb fc : EF) : EF := fun ρ => mbind (fa ρ) fun x => mbind (fb ρ) fun y => mbind (stp g x y) fun z => mbind (bOf z) fun k => if k = true then mbind (fc ρ) fun u => stp g' y u else mret (.d (.bl false))
theorem eok_chain {r r' : R2} {g g' : G2} {ta tb tc : TE} {fa fb fc : EF} (h : OpV K r g) (h' : OpV K r' g') (ha : EOk K E ta fa) (hb : EOk K E tb fb) (hc : EOk K E tc fc) : EOk K E (tChain r r' ta tb tc) (eChain g g' fa fb fc) := fun w σ ρ ev => by
  show At K E w (fun Q => ta σ w.H fun x H1 => tb σ H1 fun y H2 => r x y H2 fun z H3 => ∃ k, z = .bl k ∧ if k = true then tc σ H3 fun u H4 => r' y u H4 Q else Q (.bl false) H3) _ _
  exact At.bind rv_m (ha w σ ρ ev) fun x vx w1 e1 s1 hx => At.bind rv_m (hb w1 σ ρ (ev.ext e1)) fun y vy w2 e2 s2 hy => by
    refine At.bind rv_m (at_stp h (e2.t hx) hy) fun z vz w3 e3 s3 hz => ?_
    intro s r0 e Q q k
    unfold mbind at e
    cases hb2 : bOf z w3.μ with
    | none => rw [hb2] at e; cases e
    | some rb =>
      rw [hb2] at e
      unfold bOf at hb2
      have hz := rd_ok s hz
      split at hb2
      · rename_i b hbb
        cases hb2
        rw [hbb] at hz
        refine ⟨b, hz, ?_⟩
        cases b with
        | true => exact (At.bind rv_m (hc w3 σ ρ ((ev.ext e1).ext (e2.trans e3))) fun u vu w4 e4 s4 hu => at_stp h' ((e3.trans e4).t hy) hu) s r0 e Q q k
        | false =>
          cases e
          exact q _ w3 (.bl false) rfl (Ext.refl _) s rfl
      · cases hb2
theorem pd_chain {c : Expr} {tc : TE} {fc : EF} {r' : R2} {g' : G2} {op op' : CmpOp} {pos : Pos} (o : OpD K X (compareOp op) r g) (o' : OpD K X (compareOp op') r' g') (ha : PD K X E a ta fa) (hb : PD K X E b tb fb) (hc : PD K X E c tc fc)
    (hm : lastMarks [op, op'] [b, c] = false := by with_unfolding_all rfl) : PD K X E (.Compare a [op, op'] [b, c] pos) (tChain r r' ta tb tc) (eChain g g' fa fb fc) := ⟨pe_chain o.op o'.op ha.pe hb.pe hc.pe hm, eok_chain o.ov o'.ov ha.ok hb.ok hc.ok⟩
theorem pb_chain {c : Expr} {tc : TE} {fc : EF} {r' : R2} {g' : G2} {op op' : CmpOp} {pos : Pos} (o : OpD K X (compareOp op) r g) (o' : OpD K X (compareOp op') r' g') (ha : PD K X E a ta fa) (hb : PD K X E b tb fb) (hc : PD K X E c tc fc)
    (hm : lastMarks [op, op'] [b, c] = false := by with_unfolding_all rfl) : PB K X E (.Compare a [op, op'] [b, c] pos) (tTest (tChain r r' ta tb tc)) (bE (eChain g g' fa fb fc)) := ⟨pt_chain o.op o'.op ha.pe hb.pe hc.pe hm, bok_E (eok_chain o.ov o'.ov ha.ok hb.ok hc.ok)⟩
end

/-! ### a value's truth -/
/-- the items of a list, the pairs of a dict, by the store -/
def lstOf (μ : Mu) : T → Option (List T)
  | .d (.lst ds) => some (ds.map T.d)
  | .d (.kl ns) => some (ns.map fun i => T.d (.int i))
  | .p n => match μ[n]? with
    | some (.lst xs) => some xs
    | _ => none
  | _ => none
def tupOf : T → Option (List D)
  | .d (.tup ds) => some ds
  | _ => none
def dctOf (μ : Mu) : T → Option (List (Key × T))
  | .d (.dct kvs) => some (kvs.map fun p => (p.1, T.d p.2))
  | .p n => match μ[n]? with
    | some (.dct kvs) => some kvs
    | _ => none
  | _ => none
theorem kl_paired {K : PySem.W.Frag} {w : Wd} : ∀ (ns : List Int), Paired (w.t K) (ns.map fun i => T.d (.int i)) (ns.map V.int)
  | [] => .nil
  | n :: r => .cons rfl (kl_paired r)
theorem d_paired {K : PySem.W.Frag} {w : Wd} {ds : List D} {vs : List V} (h : Reps K w.F ds vs) : Paired (w.t K) (ds.map T.d) vs := by
  have q := pd_map (S := w.t K) T.d id (fun a b h => h) (Reps.paired.mp h)
  rw [List.map_id] at q
  exact q
theorem k_paired {K : PySem.W.Frag} {w : Wd} : ∀ {ds : List (Key × D)} {vs : List (Key × V)}, RepK K w.F ds vs → Paired (fun p q => p.1 = q.1 ∧ w.t K p.2 q.2) (ds.map fun p => (p.1, T.d p.2)) vs
  | [], vs, h => by rw [show vs = [] from h]; exact .nil
  | (k, d) :: ds, vs, ⟨v, r, h1, h2, h3⟩ => by rw [h1]; exact .cons ⟨rfl, h2⟩ (k_paired h3)
section
variable {w : Wd}
theorem lst_ok (s : StOk K w) {x : T} {v : V} {xs : List T} (h : w.t K x v) (e : lstOf w.μ x = some xs) : ∃ a vs, v = .ref a ∧ SqL K w.H a vs ∧ Paired (w.t K) xs vs := by
  cases x with
  | d d =>
    cases d with
    | lst ds =>
      cases e
      obtain ⟨a, vs, h1, h2, h3⟩ := h
      exact ⟨a, vs, h1, .of (s.sub _ _ h2), d_paired h3⟩
    | kl ns =>
      cases e
      obtain ⟨a, h1, h2⟩ := h
      exact ⟨a, _, h1, s.sub.seq h2, kl_paired ns⟩
    | _ => cases e
  | p n =>
    obtain ⟨a, h1, h2⟩ := h
    have e : (match w.μ[n]? with | some (.lst xs) => some xs | _ => none) = some xs := e
    split at e
    · rename_i ys hy
      cases e
      obtain ⟨_, vs, q1, q2⟩ := s.cell n a _ h1 hy
      exact ⟨a, vs, h2, .of q1, q2⟩
    · cases e
theorem tup_ok (s : StOk K w) {x : T} {v : V} {xs : List D} (h : w.t K x v) (e : tupOf x = some xs) : ∃ a vs, v = .ref a ∧ w.H a = some (.tup vs) ∧ Paired (w.t K) (xs.map T.d) vs := by
  cases x with
  | d d =>
    cases d with
    | tup ds =>
      cases e
      obtain ⟨a, vs, h1, h2, h3⟩ := h
      exact ⟨a, vs, h1, s.sub _ _ h2, d_paired h3⟩
    | _ => cases e
  | p n => cases e
theorem dct_ok (s : StOk K w) {x : T} {v : V} {xs : List (Key × T)} (h : w.t K x v) (e : dctOf w.μ x = some xs) : ∃ a vs, v = .ref a ∧ Rd w.H a (.dK vs) ∧ Paired (fun p q => p.1 = q.1 ∧ w.t K p.2 q.2) xs vs := by
  cases x with
  | d d =>
    cases d with
    | dct ds =>
      cases e
      obtain ⟨a, vs, h1, h2, h3⟩ := h
      exact ⟨a, vs, h1, same_rd s.sub h2, k_paired h3⟩
    | _ => cases e
  | p n =>
    obtain ⟨a, h1, h2⟩ := h
    have e : (match w.μ[n]? with | some (.dct xs) => some xs | _ => none) = some xs := e
    split at e
    · rename_i ys hy
      cases e
      obtain ⟨_, vs, q1, q2⟩ := s.cell n a _ h1 hy
      exact ⟨a, vs, h2, .inl q1, q2⟩
    · cases e
end
abbrev SL : Nat := 16777216
theorem dct_okl {K : PySem.W.Frag} {w : Wd} (s : StOk K w) {x : T} {v : V} {xs : List (Key × T)} (h : w.t K x v) (e : dctOf w.μ x = some xs) (hx : ∀ ds, x ≠ .d (.dct ds)) : ∃ a vs, v = .ref a ∧ w.H a = some (.dK vs) ∧ Paired (fun p q => p.1 = q.1 ∧ w.t K p.2 q.2) xs vs := by
  cases x with
  | d d =>
    cases d with
    | dct ds => exact absurd rfl (hx ds)
    | _ => cases e
  | p n =>
    obtain ⟨a, h1, h2⟩ := h
    have e : (match w.μ[n]? with | some (.dct xs) => some xs | _ => none) = some xs := e
    split at e
    · rename_i ys hy
      cases e
      obtain ⟨_, vs, q1, q2⟩ := s.cell n a _ h1 hy
      exact ⟨a, vs, h2, q1, q2⟩
    · cases e
theorem le_SL {n : Nat} (h : n ≤ SL) : n ≤ sizeLine := by rw [sizeLine_eq]; exact h
@[simp] def truth (μ : Mu) (x : T) : Option Bool := match x with
  | .d .non => some false
  | .d (.bl b) => some b
  | .d (.int i) => some (i != 0)
  | .d (.str s) => if s.length ≤ SL then some (s.length != 0) else none
  | .d (.dct _) => none
  | _ => match lstOf μ x with
    | some xs => some (!xs.isEmpty)
    | none => match tupOf x with
      | some xs => some (!xs.isEmpty)
      | none => match dctOf μ x with
        | some xs => some (!xs.isEmpty)
        | none => none
theorem emp_paired {α β : Type} {R : α → β → Prop} {l : List α} {m : List β} (h : Paired R l m) : m.isEmpty = l.isEmpty := by cases h <;> rfl
theorem truth_ok {K : PySem.W.Frag} {w : Wd} (s : StOk K w) {x : T} {v : V} {b : Bool} (h : w.t K x v) (e : truth w.μ x = some b) : TruV K v w.H b := by
  have rest : (∀ ds, x ≠ .d (.dct ds)) → (match lstOf w.μ x with
    | some xs => some (!xs.isEmpty)
    | none => match tupOf x with
      | some xs => some (!xs.isEmpty)
      | none => match dctOf w.μ x with
        | some xs => some (!xs.isEmpty)
        | none => none) = some b → TruV K v w.H b := fun hxx e => by
    split at e
    · rename_i xs hl
      cases e
      obtain ⟨a, vs, h1, h2, h3⟩ := lst_ok s h hl
      subst h1
      exact .inl ⟨vs, h2, by rw [emp_paired h3]⟩
    · split at e
      · rename_i xs hl
        cases e
        obtain ⟨a, vs, h1, h2, h3⟩ := tup_ok s h hl
        subst h1
        exact .inr (.inl ⟨vs, .of h2, by rw [emp_paired h3]; cases xs <;> rfl⟩)
      · split at e
        · rename_i xs hl
          cases e
          obtain ⟨a, vs, h1, h2, h3⟩ := dct_okl s h hl hxx
          subst h1
          exact .inr (.inr ⟨vs, h2, by rw [emp_paired h3]⟩)
        · cases e
  cases x with
  | p n => exact rest (fun ds z => by cases z) e
  | d d =>
    cases d with
    | non => cases e; rw [show v = .non from h]; rfl
    | bl b => cases e; rw [show v = .bl _ from h]; rfl
    | int i => cases e; rw [show v = .int i from h]; rfl
    | str z =>
      rw [show v = .str z from h]
      have e : (if z.length ≤ SL then some (z.length != 0) else none) = some b := e
      split at e
      · rename_i hz
        cases e
        refine ⟨le_SL hz, ?_⟩
        cases q : z.length with
        | zero => rfl
        | succ n =>
          show _ = ((((n + 1 : Nat) : Int)) != 0)
          have : ((((n + 1 : Nat) : Int)) != 0) = true := by
            rw [bne_iff_ne]
            omega
          rw [this]
          rfl
      · cases e
    | lst => exact rest (fun ds z => by cases z) e
    | tup => exact rest (fun ds z => by cases z) e
    | dct => cases e
    | kl => exact rest (fun ds z => by cases z) e
@[simp] def tOf (x : T) : M Bool := fun μ => match truth μ (rd μ x) with
  | some b => some (.ok b μ)
  | none => none
@[simp] def bT (f : EF) : TF := fun ρ => mbind (f ρ) tOf
/-- the reading of a value's truth -/
def tTru' (K : PySem.W.Frag) (ta : TE) : TT := fun σ H Q => ta σ H fun x H' => ∃ k, TruV K x H' k ∧ Q k H'
theorem pb_truth {a : Expr} {ta : TE} {fa : EF} (ha : PD K X E a ta fa) (hK : X.K = K := by rfl) (he : ∀ whole, isTrue a X.env whole = (do let v ← whole; standAt a.pos; holding [v] (truthy v)) := by intro _; rfl) : PB K X E a (tTru' K ta) (bT fa) := by
  subst hK
  refine ⟨pt_truth ha.pe he, fun w σ ρ ev => At.bind (R := RV X.K) rb_m (ha.ok w σ ρ ev) fun x v w1 _ _ hx => ?_⟩
  intro s r e Q k _
  unfold tOf at e
  split at e
  · rename_i b hb
    cases e
    exact ⟨b, truth_ok s (rd_ok s hx) hb, k b w1 b rfl (Ext.refl _) s rfl⟩
  · cases e

/-! ### and, or, not, if-else -/
@[simp] def bNot (f : TF) : TF := fun ρ => mbind (f ρ) fun b => mret (!b)
@[simp] def bAnd (f g : TF) : TF := fun ρ => mbind (f ρ) fun b => if b = true then g ρ else mret false
@[simp] def bOr (f g : TF) : TF := fun ρ => mbind (f ρ) fun b => if b = true then mret true else g ρ
theorem pb_not {a : Expr} {ta : TT} {fa : TF} {pos : Pos} (ha : PB K X E a ta fa) : PB K X E (.UnaryOp .Not a pos) (tNot ta) (bNot fa) := by
  refine ⟨pt_not ha.pe, fun w σ ρ ev => ?_⟩
  show At K E w (fun Q => ta σ w.H fun c H1 => Q (!c) H1) _ _
  exact (At.bind rb_m (ha.ok w σ ρ ev) fun b c w1 _ _ hb => by cases hb; exact At.ret (R := RB) rfl)
theorem bok_and {t u : TT} {f g : TF} (h1 : BOk K E t f) (h2 : BOk K E u g) : BOk K E (tAnd t u) (bAnd f g) := fun w σ ρ ev => by
  show At K E w (fun Q => t σ w.H fun c H1 => if c = true then u σ H1 Q else Q false H1) _ _
  refine At.bind rb_m (h1 w σ ρ ev) fun b c w1 e1 _ hb => ?_
  cases hb
  cases b with
  | true => exact h2 w1 σ ρ (ev.ext e1)
  | false => exact At.ret (R := RB) rfl
theorem bok_or {t u : TT} {f g : TF} (h1 : BOk K E t f) (h2 : BOk K E u g) : BOk K E (tOr t u) (bOr f g) := fun w σ ρ ev => by
  show At K E w (fun Q => t σ w.H fun c H1 => if c = true then Q true H1 else u σ H1 Q) _ _
  refine At.bind rb_m (h1 w σ ρ ev) fun b c w1 e1 _ hb => ?_
  cases hb
  cases b with
  | true => exact At.ret (R := RB) rfl
  | false => exact h2 w1 σ ρ (ev.ext e1)
section
variable {a b e : Expr} {rest : List Expr} {ta tb t : TT} {fa fb f : TF} {pos : Pos}
theorem pw1_and (ha : PB K X E a ta fa) : PWB K X E (.BoolOp .And [a] pos) ta fa := ⟨pw_and1 ha.pe, ha.ok⟩
theorem pw1_or (ha : PB K X E a ta fa) : PWB K X E (.BoolOp .Or [a] pos) ta fa := ⟨pw_or1 ha.pe, ha.ok⟩
theorem pwb_and (ha : PB K X E a ta fa) (hb : PWB K X E (.BoolOp .And (b :: rest) pos) tb fb) : PWB K X E (.BoolOp .And (a :: b :: rest) pos) (tAnd ta tb) (bAnd fa fb) := ⟨pw_and ha.pe hb.pe, bok_and ha.ok hb.ok⟩
theorem pwb_or (ha : PB K X E a ta fa) (hb : PWB K X E (.BoolOp .Or (b :: rest) pos) tb fb) : PWB K X E (.BoolOp .Or (a :: b :: rest) pos) (tOr ta tb) (bOr fa fb) := ⟨pw_or ha.pe hb.pe, bok_or ha.ok hb.ok⟩
theorem pb_bool (h : PWB K X E e t f) : PB K X E e t f := ⟨h.pe.pt, h.ok⟩
end
/-- and, or of truths as values; the last part any value -/
@[simp] def eAnd (fa fb : EF) : EF := fun ρ => mbind (bE fa ρ) fun b => if b = true then fb ρ else mret (.d (.bl false))
@[simp] def eOr (fa fb : EF) : EF := fun ρ => mbind (bE fa ρ) fun b => if b = true then mret (.d (.bl true)) else fb ρ
@[simp] def eNot (fa : EF) : EF := fun ρ => mbind (bE fa ρ) fun b => mret (.d (.bl (!b)))
theorem bok_E' {t : TE} {f : EF} (h : EOk K E t f) (w : Wd) (σ : St) (ρ : Rho) (ev : EnvOk K w σ ρ) {γ : Type} {R : RT T γ} {u : Bool → Hp → (γ → Hp → Prop) → Prop} {g : Bool → M T} (hm : ∀ w w1 w2 a b, Ext w w1 → R w1 w2 a b → R w w2 a b)
    (h2 : ∀ b w1, Ext w w1 → StOk K w1 → At K E w1 (u b w1.H) (g b) R) : At K E w (fun Q => t σ w.H fun x H1 => ∃ c, x = .bl c ∧ u c H1 Q) (mbind (bE f ρ) g) R := by
  have q := At.bind (u := u) (g := g) (R2 := R) hm (bok_E h w σ ρ ev) fun b c w1 e1 s1 hb => by
    cases hb
    exact h2 b w1 e1 s1
  exact q
section
variable {a b : Expr} {rest : List Expr} {ta tb : TE} {fa fb f : EF} {pos : Pos}
theorem pe1 {op} (h : PD K X E a ta f) : PD K X E (.BoolOp op [a] pos) ta f := ⟨pe_one h.pe, h.ok⟩
theorem pd_and (ha : PD K X E a ta fa) (hb : PD K X E (.BoolOp .And (b :: rest) pos) tb fb) : PD K X E (.BoolOp .And (a :: b :: rest) pos) (tAndV ta tb) (eAnd fa fb) := by
  refine ⟨pe_and ha.pe hb.pe, fun w σ ρ ev => bok_E' (R := RV K) (u := fun c H1 Q => if c = true then tb σ H1 Q else Q (.bl false) H1) ha.ok w σ ρ ev rv_m fun b w1 e1 s1 => ?_⟩
  cases b with
  | true => exact hb.ok w1 σ ρ (ev.ext e1)
  | false => exact At.ret (R := RV K) rfl
theorem pd_or (ha : PD K X E a ta fa) (hb : PD K X E (.BoolOp .Or (b :: rest) pos) tb fb) : PD K X E (.BoolOp .Or (a :: b :: rest) pos) (tOrV ta tb) (eOr fa fb) := by
  refine ⟨pe_or ha.pe hb.pe, fun w σ ρ ev => bok_E' (R := RV K) (u := fun c H1 Q => if c = true then Q (.bl true) H1 else tb σ H1 Q) ha.ok w σ ρ ev rv_m fun b w1 e1 s1 => ?_⟩
  cases b with
  | true => exact At.ret (R := RV K) rfl
  | false => exact hb.ok w1 σ ρ (ev.ext e1)
theorem pd_not (ha : PD K X E a ta fa) : PD K X E (.UnaryOp .Not a pos) (tNotV ta) (eNot fa) :=
  ⟨pe_not ha.pe, fun w σ ρ ev => bok_E' (R := RV K) (u := fun c H1 Q => Q (.bl (!c)) H1) ha.ok w σ ρ ev rv_m fun b w1 e1 s1 => At.ret (a := T.d (.bl (!b))) (b := V.bl (!b)) (R := RV K) rfl⟩
@[simp] def eIf (c : TF) (fa fb : EF) : EF := fun ρ => mbind (c ρ) fun b => if b = true then fa ρ else fb ρ
theorem pd_if {c : Expr} {tc : TT} {fc : TF} (hc : PB K X E c tc fc) (ha : PD K X E a ta fa) (hb : PD K X E b tb fb) : PD K X E (.IfExp c a b pos) (tIf tc ta tb) (eIf fc fa fb) := by
  refine ⟨pe_ifExp hc.pe ha.pe hb.pe, fun w σ ρ ev => ?_⟩
  show At K E w (fun Q => tc σ w.H fun c H1 => if c = true then ta σ H1 Q else tb σ H1 Q) _ _
  refine At.bind rv_m (hc.ok w σ ρ ev) fun k k' w1 e1 s1 hk => ?_
  cases hk
  cases k with
  | true => exact ha.ok w1 σ ρ (ev.ext e1)
  | false => exact hb.ok w1 σ ρ (ev.ext e1)
end

/-! ### arguments, displays -/
@[simp] def aNil : AF := fun _ => mret []
@[simp] def aCons (f : EF) (g : AF) : AF := fun ρ => mbind (f ρ) fun x => mbind (g ρ) fun xs => mret (x :: xs)
theorem pl_nil : PL K X E [] tNil aNil := ⟨pa_nil, fun w σ ρ _ => At.ret (R := RL K) .nil⟩
theorem pl_cons {e : Expr} {es : List Expr} {ta : TE} {tb : TA} {f : EF} {g : AF} (h : PD K X E e ta f) (hr : PL K X E es tb g) (hs : starEach (e :: es) X.env = (false, eval e X.env) :: starEach es X.env := by rfl) : PL K X E (e :: es) (tCons ta tb) (aCons f g) := by
  refine ⟨pa_cons h.pe hr.pe hs, fun w σ ρ ev => ?_⟩
  show At K E w (fun Q => ta σ w.H fun x H1 => tb σ H1 fun xs H2 => Q (x :: xs) H2) _ _
  exact At.bind rl_m (h.ok w σ ρ ev) fun x v w1 e1 s1 hx => At.bind rl_m (hr.ok w1 σ ρ (ev.ext e1)) fun xs vs w2 e2 s2 hxs => At.ret (a := x :: xs) (b := v :: vs) (R := RL K) (.cons (e2.t hx) hxs)
/-- a new tracked object -/
theorem new_ok {w : Wd} (s : StOk K w) {p : Addr} {o : HO} (hp : w.H p = none) : StOk K { w with H := upd w.H p o } ∧ Ext w { w with H := upd w.H p o } ∧ p ∉ w.A ∧ w.F p = none := by
  have hF : w.F p = none := s.fs hp
  have hne : ∀ (n : Nat) (b : Addr) (c : Cell), w.A[n]? = some b → w.μ[n]? = some c → c.live = true → b ≠ p := fun n b c h1 h2 h3 z => by
    obtain ⟨_, o, e⟩ := (s.cell n b c h1 h2).nn h3
    rw [z, hp] at e
    cases e
  have hA : p ∉ w.A := fun z => s.tr p z hp
  refine ⟨⟨fun b o' e => ?_, s.len, s.nd, fun b hb => ?_, fun n b c h1 h2 => ?_⟩, ⟨Same.refl _, List.prefix_refl _, fun b h => ?_, fun b o' h _ => ?_, fun b h _ _ => h, fun b h _ => h, fun b h _ => h⟩, hA, hF⟩
  · show upd w.H p o b = some o'
    rw [upd_ne (ne_of_none (s.sub b o' e) hp)]
    exact s.sub b o' e
  · show upd w.H p o b ≠ none
    rw [upd_ne (show b ≠ p from fun z => hA (by rw [← z]; exact hb))]
    exact s.tr b hb
  · refine (s.cell n b c h1 h2).rep (Same.refl _) (List.prefix_refl _) (fun l => ((s.cell n b c h1 h2).nn l).1) fun l => ?_
    show upd w.H p o b = w.H b
    exact upd_ne (hne n b c h1 h2 l)
  · have h : upd w.H p o b = none := h
    by_cases hb : b = p
    · rw [hb]; exact hp
    · rw [upd_ne hb] at h; exact h
  · show upd w.H p o b = some o'
    rw [upd_ne (ne_of_none h hp)]
    exact h
end
end Fm
set_option Elab.async false
set_option linter.all false
set_option maxRecDepth 100000
namespace Fm
open PySem L2 PySem.Spec PyProof.Rows
section
variable {X : Cx} {E : XK} {K : PySem.W.Frag}

/-! ### operators -/
/-! the readings -/
abbrev qAddI : R2 := rI0 fun i j => .int (i + j)
abbrev qSub : R2 := rI0 fun i j => .int (i - j)
abbrev qMul : R2 := rI CMul fun i j => .int (i * j)
abbrev qMod : R2 := rI (fun _ j => 0 < j) fun i j => .int (i % j)
abbrev qDiv : R2 := rI CDiv fun i j => .int (i / j)
abbrev qPow : R2 := rI CPow fun i j => .int (i ^ j.toNat)
abbrev qAddS : R2 := fun x y H Q => ∃ i j, x = .str i ∧ y = .str j ∧ i.length + j.length ≤ sizeLine ∧ Q (.str (i ++ j)) H
abbrev qOr (r q : R2) : R2 := fun x y H Q => r x y H Q ∨ q x y H Q
abbrev qLtI : R2 := rI0 fun i j => .bl (decide (i < j))
abbrev qGtI : R2 := rI0 fun i j => .bl (decide (j < i))
abbrev qLe : R2 := rI0 fun i j => .bl (decide (i ≤ j))
abbrev qGe : R2 := rI0 fun i j => .bl (decide (j ≤ i))
abbrev qLtS : R2 := fun x y H Q => ∃ i j, x = .str i ∧ y = .str j ∧ Q (.bl (decide (i.cps.toList < j.cps.toList))) H
abbrev qGtS : R2 := fun x y H Q => ∃ i j, x = .str i ∧ y = .str j ∧ Q (.bl (decide (j.cps.toList < i.cps.toList))) H
abbrev qIsN : R2 := fun x y H Q => y = .non ∧ Q (.bl (decide (x = .non))) H
abbrev qNotN : R2 := fun x y H Q => y = .non ∧ Q (.bl (!decide (x = .non))) H
abbrev qInS : R2 := fun x y H Q => ∃ (c : Nat) (z : Str), x = .str ⟨#[c]⟩ ∧ y = .str z ∧ Q (.bl (decide (c ∈ z.cps.toList))) H
abbrev qNotInS : R2 := fun x y H Q => ∃ (c : Nat) (z : Str), x = .str ⟨#[c]⟩ ∧ y = .str z ∧ Q (.bl (!decide (c ∈ z.cps.toList))) H
/-- ints in, data out -/
@[simp] def gI (h : Int → Int → D) : G2 := fun _ x y => match x, y with
  | .d (.int i), .d (.int j) => some (.d (h i j))
  | _, _ => none
@[simp] def gIc (c : Int → Int → Bool) (h : Int → Int → D) : G2 := fun _ x y => match x, y with
  | .d (.int i), .d (.int j) => if c i j = true then some (.d (h i j)) else none
  | _, _ => none
theorem opv_I {g : Int → Int → V} {h : Int → Int → D} (hr : ∀ F i j, Rep K F (h i j) (g i j)) : OpV K (rI0 g) (gI h) := fun w x y vx vy z s hx hy e => by
  unfold gI at e
  split at e
  · rename_i i j
    cases e
    exact ⟨g i j, hr w.F i j, fun Q q => ⟨i, j, hx, hy, q⟩⟩
  · cases e
theorem opv_Ic {C : Int → Int → Prop} {c : Int → Int → Bool} {g : Int → Int → V} {h : Int → Int → D} (hc : ∀ i j, c i j = true → C i j) (hr : ∀ F i j, Rep K F (h i j) (g i j)) : OpV K (rI C g) (gIc c h) := fun w x y vx vy z s hx hy e => by
  unfold gIc at e
  split at e
  · rename_i i j
    split at e
    · rename_i hcc
      cases e
      exact ⟨g i j, hr w.F i j, fun Q q => ⟨i, j, hx, hy, hc i j hcc, q⟩⟩
    · cases e
  · cases e
def cMul (i j : Int) : Bool := decide (-(2 ^ 64) < i ∧ i < 2 ^ 64) || decide (-(2 ^ 64) < j ∧ j < 2 ^ 64)
theorem od_addI : OpD K X (binaryOp .Add) qAddI (gI fun i j => .int (i + j)) := ⟨op_add, opv_I fun _ _ _ => rfl⟩
theorem od_sub : OpD K X (binaryOp .Sub) qSub (gI fun i j => .int (i - j)) := ⟨op_sub, opv_I fun _ _ _ => rfl⟩
theorem od_mul : OpD K X (binaryOp .Mult) qMul (gIc cMul fun i j => .int (i * j)) := ⟨op_mul, opv_Ic (fun i j h => by
  unfold cMul at h
  rw [Bool.or_eq_true, decide_eq_true_eq, decide_eq_true_eq] at h
  exact h) fun _ _ _ => rfl⟩
theorem od_mod : OpD K X (binaryOp .Mod) qMod (gIc (fun _ j => decide (0 < j)) fun i j => .int (i % j)) := ⟨op_mod, opv_Ic (fun i j h => of_decide_eq_true h) fun _ _ _ => rfl⟩
theorem od_fdiv : OpD K X (binaryOp .FloorDiv) qDiv (gIc (fun _ j => decide (0 < j ∧ j < 1073741824)) fun i j => .int (i / j)) := ⟨op_fdiv, opv_Ic (fun i j h => by have q := of_decide_eq_true h; exact q) fun _ _ _ => rfl⟩
theorem od_pow : OpD K X (binaryOp .Pow) qPow (gIc (fun i j => decide (0 ≤ j ∧ j ≤ 1000000 ∧ i.natAbs < 2 ^ 64)) fun i j => .int (i ^ j.toNat)) := ⟨op_pow, opv_Ic (fun i j h => by have q := of_decide_eq_true h; exact q) fun _ _ _ => rfl⟩
@[simp] def gSS (h : Str → Str → Option D) : G2 := fun _ x y => match x, y with
  | .d (.str i), .d (.str j) => (h i j).map T.d
  | _, _ => none
@[simp] def hCatS (i j : Str) : Option D := if i.length + j.length ≤ SL then some (.str (i ++ j)) else none
theorem od_addS : OpD K X (binaryOp .Add) qAddS (gSS hCatS) := ⟨op_add_str, fun w x y vx vy z s hx hy e => by
  unfold gSS at e
  split at e
  · rename_i i j
    unfold hCatS at e
    split at e
    · rename_i hl
      cases e
      exact ⟨.str (i ++ j), rfl, fun Q q => ⟨i, j, hx, hy, le_SL hl, q⟩⟩
    · cases e
  · cases e⟩
@[simp] def gAdd : G2 := fun μ x y => (g2or (gI fun i j => .int (i + j)) (gSS hCatS)) μ x y
theorem od_add : OpD K X (binaryOp .Add) (qOr qAddI qAddS) gAdd := od_addI.or od_addS
/-! comparisons -/
theorem opv_S {p : Str → Str → Bool} : OpV K (fun x y H Q => ∃ i j, x = .str i ∧ y = .str j ∧ Q (.bl (p i j)) H) (gSS fun i j => some (.bl (p i j))) := fun w x y vx vy z s hx hy e => by
  unfold gSS at e
  split at e
  · rename_i i j
    cases e
    exact ⟨.bl (p i j), rfl, fun Q q => ⟨i, j, hx, hy, q⟩⟩
  · cases e
def ltS (i j : Str) : Bool := decide (i.cps.toList < j.cps.toList)
@[simp] def gLt : G2 := fun μ x y => (g2or (gI fun i j => .bl (decide (i < j))) (gSS fun i j => some (.bl (ltS i j)))) μ x y
@[simp] def gGt : G2 := fun μ x y => (g2or (gI fun i j => .bl (decide (j < i))) (gSS fun i j => some (.bl (ltS j i)))) μ x y
@[simp] def gLe : G2 := fun μ x y => (gI fun i j => .bl (decide (i ≤ j))) μ x y
@[simp] def gGe : G2 := fun μ x y => (gI fun i j => .bl (decide (j ≤ i))) μ x y
theorem od_lt : OpD K X (compareOp .Lt) (qOr qLtI qLtS) gLt := OpD.or ⟨op_lt, opv_I fun _ _ _ => rfl⟩ ⟨op_lt_str, opv_S⟩
theorem od_gt : OpD K X (compareOp .Gt) (qOr qGtI qGtS) gGt := OpD.or ⟨op_gt, opv_I fun _ _ _ => rfl⟩ ⟨op_gt_str, fun w x y vx vy z s hx hy e => by
  unfold gSS at e
  split at e
  · rename_i i j
    cases e
    exact ⟨.bl (ltS j i), rfl, fun Q q => ⟨i, j, hx, hy, q⟩⟩
  · cases e⟩
theorem od_le : OpD K X (compareOp .LtE) qLe gLe := ⟨op_le, opv_I fun _ _ _ => rfl⟩
theorem od_ge : OpD K X (compareOp .GtE) qGe gGe := ⟨op_ge, opv_I fun _ _ _ => rfl⟩
/-- == of flat things: what they are as values -/
@[simp] def flat : T → Option V
  | .d .non => some .non
  | .d (.bl b) => some (.bl b)
  | .d (.int i) => some (.int i)
  | .d (.str s) => some (.str s)
  | _ => none
theorem flat_ok {w : Wd} {x : T} {v u : V} (h : w.t K x v) (e : flat x = some u) : v = u := by
  unfold flat at e
  split at e
  · cases e; exact h
  · cases e; exact h
  · cases e; exact h
  · cases e; exact h
  · cases e
@[simp] def gEqF (n : Bool) : G2 := fun _ x y => match flat x, flat y with
  | some u, some v => if scal u v = true then some (.d (.bl (if n then !decide (u = v) else decide (u = v)))) else none
  | _, _ => none
theorem opv_eqF : OpV K rEq (gEqF false) := fun w x y vx vy z s hx hy e => by
  unfold gEqF at e
  split at e
  · rename_i u v h1 h2
    cases flat_ok hx h1
    cases flat_ok hy h2
    split at e
    · rename_i hs
      cases e
      exact ⟨_, rfl, fun Q q => ⟨hs, q⟩⟩
    · cases e
  · cases e
theorem opv_neF : OpV K rNe (gEqF true) := fun w x y vx vy z s hx hy e => by
  unfold gEqF at e
  split at e
  · rename_i u v h1 h2
    cases flat_ok hx h1
    cases flat_ok hy h2
    split at e
    · rename_i hs
      cases e
      exact ⟨_, rfl, fun Q q => ⟨hs, q⟩⟩
    · cases e
  · cases e
theorem od_eqF : OpD K X (compareOp .Eq) rEq (gEqF false) := ⟨op_eq, opv_eqF⟩
theorem od_neF : OpD K X (compareOp .NotEq) rNe (gEqF true) := ⟨op_ne, opv_neF⟩
/-- is: None on the right, or two truths -/
theorem rep_non {w : Wd} {x : T} {v : V} (h : w.t K x v) : v = .non ↔ x = .d .non := by
  cases x with
  | p n => obtain ⟨a, _, e⟩ := h; rw [e]; simp
  | d d => cases d with
    | non => exact ⟨fun _ => rfl, fun _ => h⟩
    | bl => rw [show v = _ from h]; simp
    | int => rw [show v = _ from h]; simp
    | str => rw [show v = _ from h]; simp
    | lst => obtain ⟨a, _, e, _⟩ := h; rw [e]; simp
    | tup => obtain ⟨a, _, e, _⟩ := h; rw [e]; simp
    | dct => obtain ⟨a, _, e, _⟩ := h; rw [e]; simp
    | kl => obtain ⟨a, e, _⟩ := h; rw [e]; simp
@[simp] def isNon : T → Bool
  | .d .non => true
  | _ => false
theorem isNon_iff {x : T} : isNon x = true ↔ x = .d .non := by
  unfold isNon
  split
  · simp
  · rename_i h
    exact ⟨fun z => Bool.noConfusion z, fun z => absurd z h⟩
@[simp] def gIsN (n : Bool) : G2 := fun _ x y => match y with
  | .d .non => some (.d (.bl (if n then !isNon x else isNon x)))
  | _ => none
@[simp] def gIsB (n : Bool) : G2 := fun _ x y => match x, y with
  | .d (.bl a), .d (.bl b) => some (.d (.bl (if n then !decide (a = b) else decide (a = b))))
  | _, _ => none
theorem isN_val {w : Wd} {x : T} {v : V} (h : w.t K x v) : isNon x = decide (v = .non) := by
  rw [Bool.eq_iff_iff, isNon_iff, decide_eq_true_eq]
  exact (rep_non h).symm
theorem od_is : OpD K X (compareOp .Is) (qOr qIsN rIsB) (g2or (gIsN false) (gIsB false)) := OpD.or ⟨op_isN, fun w x y vx vy z s hx hy e => by
    unfold gIsN at e
    split at e
    · have q := isN_val hx
      cases e
      refine ⟨_, rfl, fun Q k => ⟨hy, ?_⟩⟩
      rw [q] at k
      exact k
    · cases e⟩
  ⟨op_isBl, fun w x y vx vy z s hx hy e => by
    unfold gIsB at e
    split at e
    · rename_i a b
      cases e
      exact ⟨_, rfl, fun Q k => ⟨a, b, hx, hy, k⟩⟩
    · cases e⟩
theorem od_isNot : OpD K X (compareOp .IsNot) (qOr qNotN rNotB) (g2or (gIsN true) (gIsB true)) := OpD.or ⟨op_notN, fun w x y vx vy z s hx hy e => by
    unfold gIsN at e
    split at e
    · have q := isN_val hx
      cases e
      refine ⟨_, rfl, fun Q k => ⟨hy, ?_⟩⟩
      rw [q] at k
      exact k
    · cases e⟩
  ⟨op_notBl, fun w x y vx vy z s hx hy e => by
    unfold gIsB at e
    split at e
    · rename_i a b
      cases e
      exact ⟨_, rfl, fun Q k => ⟨a, b, hx, hy, k⟩⟩
    · cases e⟩
/-- one sign in a text; a flat thing in a list; a key in a dict -/
def sgn (s : Str) : Option Nat := match s.cps.toList with
  | [c] => some c
  | _ => none
theorem sgn_ok {s : Str} {c : Nat} (h : sgn s = some c) : s = ⟨#[c]⟩ := by
  unfold sgn at h
  split at h
  · rename_i c' e
    cases h
    cases s with
    | mk cps =>
      have : cps = #[c] := by
        rw [← Array.toList_inj]
        exact e
      rw [this]
  · cases h
def inS (i j : Str) : Option Bool := (sgn i).map fun c => decide (c ∈ j.cps.toList)
def gInS (n : Bool) : G2 := gSS fun i j => (inS i j).map fun b => .bl (if n then !b else b)
theorem od_inS : OpD K X (compareOp .In) qInS (gInS false) := ⟨op_in_sign, fun w x y vx vy z s hx hy e => by
  unfold gInS gSS at e
  split at e
  · rename_i i j
    have e : Option.map T.d ((inS i j).map fun b => D.bl (if false = true then !b else b)) = some z := e
    unfold inS at e
    cases hs : sgn i with
    | none => rw [hs] at e; cases e
    | some c =>
      rw [hs] at e
      cases e
      refine ⟨_, rfl, fun Q q => ⟨c, j, ?_, hy, q⟩⟩
      rw [show vx = .str i from hx, sgn_ok hs]
  · cases e⟩
theorem od_notInS : OpD K X (compareOp .NotIn) qNotInS (gInS true) := ⟨op_notIn_sign, fun w x y vx vy z s hx hy e => by
  unfold gInS gSS at e
  split at e
  · rename_i i j
    have e : Option.map T.d ((inS i j).map fun b => D.bl (if true = true then !b else b)) = some z := e
    unfold inS at e
    cases hs : sgn i with
    | none => rw [hs] at e; cases e
    | some c =>
      rw [hs] at e
      cases e
      refine ⟨_, rfl, fun Q q => ⟨c, j, ?_, hy, q⟩⟩
      rw [show vx = .str i from hx, sgn_ok hs]
  · cases e⟩

/-! ### subscripts -/
/-- a key by its value -/
def keyOf : T → Option Key
  | .d (.int i) => some (.inl i)
  | .d (.str s) => some (.inr s)
  | _ => none
theorem keyOf_ok {w : Wd} {x : T} {v : V} {k : Key} (h : w.t K x v) (e : keyOf x = some k) : v = kV k := by
  unfold keyOf at e
  split at e
  · cases e; exact h
  · cases e; exact h
  · cases e
def valT (kvs : List (Key × T)) (k : Key) : Option T := (kvs.find? fun kv => decide (kv.1 = k)).map (·.2)
theorem valT_ok {R : T → V → Prop} : ∀ {xs : List (Key × T)} {vs : List (Key × V)} {k : Key}, Paired (fun p q => p.1 = q.1 ∧ R p.2 q.2) xs vs → match valT xs k with
    | some x => ∃ v, valV vs k = some v ∧ R x v
    | none => valV vs k = none
  | [], _, _, .nil => rfl
  | (a, x) :: xs, (b, v) :: vs, k, .cons h t => by
    obtain ⟨e, r⟩ := h
    cases e
    by_cases ek : a = k
    · have h1 : valT ((a, x) :: xs) k = some x := by simp [valT, List.find?_cons, ek]
      rw [h1]
      exact ⟨v, valV_pos ek, r⟩
    · have h1 : valT ((a, x) :: xs) k = valT xs k := by simp [valT, List.find?_cons, ek]
      rw [h1, valV_neg ek]
      exact valT_ok t
def ixT {α : Type} (xs : List α) (y : T) : Option α := match y with
  | .d (.int i) => atI xs i
  | _ => none
def gIx2 : G2 := fun μ x y => match lstOf μ x with
  | some xs => (ixT xs y).map (rd μ)
  | none => match tupOf x with
    | some xs => (ixT xs y).map T.d
    | none => match dctOf μ x with
      | some kvs => match keyOf y with
        | some k => (valT kvs k).map (rd μ)
        | none => none
      | none => none
def gIx : G2 := fun μ x y => match x with
  | .d (.str z) => if z.length ≤ SL then (ixT z.cps.toList y).map fun c => .d (.str ⟨#[c]⟩) else none
  | x => gIx2 μ x y
/-- a dict's item -/
def rIxD : R2 := fun x y H Q => ∃ a v, x = .ref a ∧ DGet H a y (some v) ∧ Q v H
theorem ix_dict (hu : X.A.units + 1 < cLine) : IxR X rIxD := by
  intro value slice pins s σ H x y v u Q I rx ry q hs
  obtain ⟨a, v0, rfl, hd, q⟩ := q
  cases (show v = Value.ref a from rx)
  exact tail_any (dict_typeIs I hd) PySem.F.slot_dict_getitem.lookup (d_getItem hu I hd ry fun w' s' I' r' => ⟨v0, H, I', r', q⟩) hs
end
end Fm
set_option Elab.async false
set_option linter.all false
set_option maxRecDepth 100000
namespace Fm
open PySem L2 PySem.Spec PyProof.Rows

/-! ### the order of texts, and sorting them -/
theorem ltc_irr : ∀ a : List Nat, ltCps a a = false
  | [] => rfl
  | x :: r => by simp [ltCps, ltc_irr r]
theorem ltc_trans : ∀ {a b c : List Nat}, ltCps a b = true → ltCps b c = true → ltCps a c = true
  | [], [], _, h, _ => by cases h
  | [], _ :: _, [], _, h => by cases h
  | [], _ :: _, _ :: _, _, _ => rfl
  | _ :: _, [], _, h, _ => by cases h
  | _ :: _, _ :: _, [], _, h => by cases h
  | x :: a, y :: b, z :: c, h1, h2 => by
    simp only [ltCps, Bool.or_eq_true, decide_eq_true_eq, Bool.and_eq_true, beq_iff_eq] at h1 h2 ⊢
    rcases h1 with h1 | ⟨e1, h1⟩ <;> rcases h2 with h2 | ⟨e2, h2⟩
    · left; omega
    · left; omega
    · left; omega
    · right; exact ⟨by omega, ltc_trans h1 h2⟩
theorem ltc_tri : ∀ a b : List Nat, ltCps a b = true ∨ a = b ∨ ltCps b a = true
  | [], [] => .inr (.inl rfl)
  | [], _ :: _ => .inl rfl
  | _ :: _, [] => .inr (.inr rfl)
  | x :: a, y :: b => by
    simp only [ltCps, Bool.or_eq_true, decide_eq_true_eq, Bool.and_eq_true, beq_iff_eq]
    rcases Nat.lt_trichotomy x y with h | h | h
    · exact .inl (.inl h)
    · subst h
      rcases ltc_tri a b with q | q | q
      · exact .inl (.inr ⟨rfl, q⟩)
      · exact .inr (.inl (by rw [q]))
      · exact .inr (.inr (.inr ⟨rfl, q⟩))
    · exact .inr (.inr (.inl h))
theorem ltc_asym {a b : List Nat} (h : ltCps a b = true) : ltCps b a = false := by
  cases q : ltCps b a with
  | false => rfl
  | true => rw [ltc_irr a |>.symm.trans (by rw [ltc_trans h q])]
theorem ltc_lt : ∀ a b : List Nat, decide (a < b) = ltCps a b
  | [], [] => rfl
  | [], _ :: _ => by simp [ltCps]
  | _ :: _, [] => by simp [ltCps]
  | x :: a, y :: b => by
    rw [Bool.eq_iff_iff, decide_eq_true_eq]
    simp only [ltCps, Bool.or_eq_true, decide_eq_true_eq, Bool.and_eq_true, beq_iff_eq, List.cons_lt_cons_iff]
    have q := ltc_lt a b
    rw [Bool.eq_iff_iff, decide_eq_true_eq] at q
    rw [q]
theorem str_ext {a b : Str} (h : a.cps.toList = b.cps.toList) : a = b := by
  cases a; cases b
  congr
  exact Array.toList_inj.mp h
def sLt (a b : Str) : Bool := ltCps a.cps.toList b.cps.toList
theorem ltS_eq (a b : Str) : ltS a b = sLt a b := ltc_lt _ _
def insS (x : Str) : List Str → List Str
  | [] => [x]
  | y :: r => if sLt y x = true then y :: insS x r else x :: y :: r
def sortS : List Str → List Str
  | [] => []
  | x :: r => insS x (sortS r)
def SrtS : List Str → Prop := List.Pairwise fun a b => sLt b a = false
theorem insS_perm (x : Str) : ∀ l, (insS x l).Perm (x :: l)
  | [] => .refl _
  | y :: r => by
    unfold insS
    split
    · exact ((insS_perm x r).cons y).trans (.swap x y r)
    · exact .refl _
theorem sortS_perm : ∀ l, (sortS l).Perm l
  | [] => .refl _
  | x :: r => (insS_perm x (sortS r)).trans ((sortS_perm r).cons x)
theorem insS_srt (x : Str) : ∀ {l}, SrtS l → SrtS (insS x l)
  | [], _ => List.pairwise_singleton _ _
  | y :: r, h => by
    obtain ⟨h1, h2⟩ := List.pairwise_cons.mp h
    unfold insS
    split
    · rename_i c
      refine List.pairwise_cons.mpr ⟨fun z hz => ?_, insS_srt x h2⟩
      rcases List.mem_cons.mp ((insS_perm x r).mem_iff.mp hz) with e | e
      · rw [e]; exact ltc_asym c
      · exact h1 z e
    · rename_i c
      have c : sLt y x = false := by
        cases q : sLt y x with
        | false => rfl
        | true => exact absurd q c
      refine List.pairwise_cons.mpr ⟨fun z hz => ?_, h⟩
      rcases List.mem_cons.mp hz with e | e
      · rw [e]; exact c
      · cases q : sLt z x with
        | false => rfl
        | true =>
          rcases ltc_tri y.cps.toList x.cps.toList with k | k | k
          · exact absurd k (by rw [show ltCps y.cps.toList x.cps.toList = false from c]; simp)
          · have z1 := h1 z e
            rw [str_ext k] at z1
            exact absurd q (by rw [z1]; simp)
          · exact absurd (ltc_trans q k) (by rw [show ltCps z.cps.toList y.cps.toList = false from h1 z e]; simp)
theorem sortS_srt : ∀ l, SrtS (sortS l)
  | [] => .nil
  | x :: r => insS_srt x (sortS_srt r)
theorem srt_uniq : ∀ {l m : List Str}, SrtS l → SrtS m → l.Perm m → l = m
  | [], m, _, _, p => by rw [List.nil_perm.mp p]
  | x :: l, [], _, _, p => absurd p.symm (by simp)
  | x :: l, y :: m, h1, h2, p => by
    obtain ⟨a1, a2⟩ := List.pairwise_cons.mp h1
    obtain ⟨b1, b2⟩ := List.pairwise_cons.mp h2
    have e : x = y := by
      have hx : x ∈ y :: m := p.mem_iff.mp List.mem_cons_self
      have hy : y ∈ x :: l := p.mem_iff.mpr List.mem_cons_self
      rcases List.mem_cons.mp hx with e | hx
      · exact e
      rcases List.mem_cons.mp hy with e | hy
      · exact e.symm
      rcases ltc_tri x.cps.toList y.cps.toList with k | k | k
      · exact absurd k (by rw [show ltCps x.cps.toList y.cps.toList = false from b1 x hx]; simp)
      · exact str_ext k
      · exact absurd k (by rw [show ltCps y.cps.toList x.cps.toList = false from a1 y hy]; simp)
    subst e
    rw [srt_uniq a2 b2 (List.Perm.cons_inv p)]
theorem rising_srt : ∀ {x : Str} {l : List Str}, risingS x l = true → SrtS (x :: l)
  | x, [], _ => List.pairwise_singleton _ _
  | x, y :: r, h => by
    have h : (!ltCps y.cps.toList x.cps.toList && risingS y r) = true := h
    rw [Bool.and_eq_true, Bool.not_eq_true'] at h
    have q := rising_srt h.2
    refine List.pairwise_cons.mpr ⟨fun z hz => ?_, q⟩
    rcases List.mem_cons.mp hz with e | e
    · rw [e]; exact h.1
    · have k := (List.pairwise_cons.mp q).1 z e
      cases c : sLt z x with
      | false => rfl
      | true =>
        rcases ltc_tri x.cps.toList y.cps.toList with t | t | t
        · exact absurd (ltc_trans c t) (by rw [show ltCps z.cps.toList y.cps.toList = false from k]; simp)
        · rw [← str_ext t] at k
          exact absurd c (by rw [k]; simp)
        · exact absurd t (by rw [h.1]; simp)
theorem sortedS_srt : ∀ {l : List Str}, sortedS l = true → SrtS l
  | [], _ => .nil
  | _ :: _, h => rising_srt h
theorem sorted_is {ys xs : List Str} (p : ys.Perm xs) (h : sortedS ys = true) : ys = sortS xs := srt_uniq (sortedS_srt h) (sortS_srt xs) (p.trans (sortS_perm xs).symm)

section
variable {X : Cx} {E : XK} {K : PySem.W.Frag}
/-! ### o[i] -/
theorem ixN_lt {n : Nat} {i : Int} {j : Nat} (h : ixN n i = some j) : j < n := (ixN_seq h).2.1
theorem atI_pd {α β : Type} {R : α → β → Prop} {xs : List α} {ys : List β} {i : Int} {a : α} (h : Paired R xs ys) (e : atI xs i = some a) : ∃ b, atI ys i = some b ∧ R a b := by
  unfold atI at e
  obtain ⟨j, h1, h2⟩ := Option.bind_eq_some_iff.mp e
  obtain ⟨b, h3, h4⟩ := pd_get h h2
  exact ⟨b, by unfold atI; rw [← pd_len h, h1]; exact h3, h4⟩
theorem ixT_some {α : Type} {xs : List α} {y : T} {a : α} (h : ixT xs y = some a) : ∃ i, y = .d (.int i) ∧ atI xs i = some a := by
  unfold ixT at h
  split at h
  · exact ⟨_, rfl, h⟩
  · cases h
theorem ix2_ok {w : Wd} {x y : T} {vx vy : V} {z : T} (s : StOk K w) (hx : w.t K x vx) (hy : w.t K y vy) (e : gIx2 w.μ x y = some z) : ∃ v, w.t K z v ∧ ∀ Q : VK, Q v w.H → rIx K vx vy w.H Q ∨ rIxD vx vy w.H Q := by
  unfold gIx2 at e
  split at e
  · rename_i xs hl
    obtain ⟨a, vs, h1, h2, h3⟩ := lst_ok s hx hl
    obtain ⟨u, h4, h5⟩ := Option.map_eq_some_iff.mp e
    obtain ⟨i, ey, h4b⟩ := ixT_some h4
    subst ey
    obtain ⟨v, h6, h7⟩ := atI_pd h3 h4b
    rw [← h5]
    exact ⟨v, rd_ok s h7, fun Q q => .inl (.inl ⟨a, vs, i, v, h1, hy, h2, h6, q⟩)⟩
  · split at e
    · rename_i xs hl
      obtain ⟨a, vs, h1, h2, h3⟩ := tup_ok s hx hl
      obtain ⟨u, h4, h5⟩ := Option.map_eq_some_iff.mp e
      obtain ⟨i, ey, h4b⟩ := ixT_some h4
      subst ey
      have h4' : atI (xs.map T.d) i = some (.d u) := by
        unfold atI at h4b ⊢
        obtain ⟨j, q1, q2⟩ := Option.bind_eq_some_iff.mp h4b
        rw [List.length_map, q1]
        show (xs.map T.d)[j]? = _
        rw [List.getElem?_map, q2] <;> rfl
      obtain ⟨v, h6, h7⟩ := atI_pd h3 h4'
      rw [← h5]
      exact ⟨v, h7, fun Q q => .inl (.inr (.inl ⟨a, vs, i, v, h1, hy, .of h2, h6, q⟩))⟩
    · split at e
      · rename_i kvs hd
        obtain ⟨a, vs, h1, h2, h3⟩ := dct_ok s hx hd
        split at e
        · rename_i k hk
          obtain ⟨u, h4, h5⟩ := Option.map_eq_some_iff.mp e
          have q := valT_ok (k := k) h3
          rw [h4] at q
          obtain ⟨v, h6, h7⟩ := q
          rw [← h5]
          refine ⟨v, rd_ok s h7, fun Q q => .inr ⟨a, v, h1, ?_, q⟩⟩
          rw [keyOf_ok hy hk, ← h6]
          exact .inl ⟨_, _, h2, rfl, rfl⟩
        · cases e
      · cases e
theorem opv_ix : OpV K (fun x y H Q => rIx K x y H Q ∨ rIxD x y H Q) gIx := fun w x y vx vy z s hx hy e => by
  unfold gIx at e
  split at e
  · rename_i zz
    split at e
    · rename_i hz
      obtain ⟨c, h1, h2⟩ := Option.map_eq_some_iff.mp e
      obtain ⟨i, rfl, h1⟩ := ixT_some h1
      rw [← h2]
      exact ⟨.str ⟨#[c]⟩, rfl, fun Q q => .inl (.inr (.inr ⟨zz, i, c, hx, hy, le_SL hz, h1, q⟩))⟩
    · cases e
  · exact ix2_ok s hx hy e
theorem pd_ix {a b : Expr} {ta tb : TE} {fa fb : EF} {pos : Pos} (hu : X.A.units + 1 < cLine) (ha : PD K X E a ta fa) (hb : PD K X E b tb fb) (hK : X.K = K := by rfl) (hs : PlainIx b := by exact fun _ _ => rfl) : PD K X E (.Subscript a b pos) (tOp (fun x y H Q => rIx K x y H Q ∨ rIxD x y H Q) ta tb) (eOp gIx fa fb) := by
  subst hK
  exact ⟨pe_ix (ix_seq.or (ix_dict hu)) ha.pe hb.pe hs, eok_op opv_ix ha.ok hb.ok⟩

/-! ### slices -/
abbrev OF := Rho → M (Option Int)
def RO : RT (Option Int) (Option Int) := fun _ _ a b => a = b
def OOk (K : PySem.W.Frag) (E : XK) (t : TO) (f : OF) : Prop := ∀ w σ ρ, EnvOk K w σ ρ → At K E w (t σ w.H) (f ρ) RO
structure PO' (K : PySem.W.Frag) (X : Cx) (E : XK) (e : Option Expr) (t : TO) (f : OF) : Prop where
  pe : PO X e t
  ok : OOk K E t f
def oNone : OF := fun _ => mret none
def iOf (x : T) : M (Option Int) := fun μ => match rd μ x with
  | .d (.int i) => some (.ok (some i) μ)
  | _ => none
def oSome (f : EF) : OF := fun ρ => mbind (f ρ) iOf
theorem po_n : PO' K X E none tNoPart oNone := ⟨po_none, fun w σ ρ _ => At.ret (R := RO) rfl⟩
theorem po_s {e : Expr} {t : TE} {f : EF} (h : PD K X E e t f) : PO' K X E (some e) (tPart t) (oSome f) := by
  refine ⟨po_some h.pe, fun w σ ρ ev => ?_⟩
  show At K E w (fun Q => t σ w.H fun x H1 => ∃ i, x = .int i ∧ Q (some i) H1) _ _
  refine At.bind (fun _ _ _ _ _ _ h => h) (h.ok w σ ρ ev) fun x v w1 e1 s1 hx => ?_
  intro s r e Q k _
  unfold iOf at e
  have hx := rd_ok s hx
  split at e
  · rename_i i hi
    cases e
    rw [hi] at hx
    exact ⟨i, hx, k _ w1 _ rfl (Ext.refl _) s rfl⟩
  · cases e
def cutL {α : Type} (xs : List α) (lo hi : Option Int) : List α := (xs.drop (HT.sIx xs.length 0 lo)).take (HT.sIx xs.length xs.length hi - HT.sIx xs.length 0 lo)
/-- a slice of a text -/
def slS (x : T) (l u : Option Int) : M T := fun μ => match rd μ x with
  | .d (.str z) => if z.length ≤ SL then some (.ok (.d (.str (cutS z l u))) μ) else none
  | _ => none
def eSlS (f : EF) (l u : OF) : EF := fun ρ => mbind (f ρ) fun x => mbind (l ρ) fun lo => mbind (u ρ) fun hi => slS x lo hi
theorem pd_slS {e : Expr} {lo hi : Option Expr} {te : TE} {tl tu : TO} {f : EF} {l u : OF} {p2 pos : Pos} (h : PD K X E e te f) (hl : PO' K X E lo tl l) (hu : PO' K X E hi tu u) : PD K X E (.Subscript e (.Slice lo hi none p2) pos) (tSl rSlS te tl tu) (eSlS f l u) := by
  obtain ⟨a1, a2⟩ := h
  obtain ⟨b1, b2⟩ := hl
  obtain ⟨c1, c2⟩ := hu
  refine ⟨pe_slice sl_str a1 b1 c1, fun w σ ρ ev => ?_⟩
  show At K E w (fun Q => te σ w.H fun x H1 => tl σ H1 fun a H2 => tu σ H2 fun b H3 => rSlS x a b H3 Q) _ _
  refine At.bind rv_m (a2 w σ ρ ev) fun x v w1 e1 s1 hx => At.bind rv_m (b2 w1 σ ρ (ev.ext e1)) fun a a' w2 e2 s2 ha => At.bind rv_m (c2 w2 σ ρ ((ev.ext e1).ext e2)) fun b b' w3 e3 s3 hb => ?_
  cases ha
  cases hb
  intro s r e Q k _
  unfold slS at e
  have hx := rd_ok s (e3.t (e2.t hx))
  split at e
  · rename_i z hz
    rw [hz] at hx
    split at e
    · rename_i hzz
      cases e
      exact ⟨z, hx, le_SL hzz, k _ w3 (.str (cutS z a b)) rfl (Ext.refl _) s rfl⟩
    · cases e
  · cases e
/-- what a heap object is to a cell -/
def CellO (K : PySem.W.Frag) (w : Wd) : Cell → HO → Prop
  | .lst xs, .lst vs => Paired (w.t K) xs vs
  | .dct xs, .dK vs => Paired (fun p q => p.1 = q.1 ∧ w.t K p.2 q.2) xs vs
  | .dcu xs, .dT vs => Paired (fun p q => p.1 = q.1 ∧ w.t K p.2 q.2) xs vs
  | _, _ => False
theorem CellO.live {w : Wd} {c : Cell} {o : HO} (h : CellO K w c o) : c.live = true := by
  cases c with
  | frz => cases o <;> cases h
  | _ => rfl
/-- a new object at p is a new cell's content -/
theorem new_rc {w : Wd} (s : StOk K w) {c : Cell} {o : HO} {p : Addr} (h : CellO K w c o) (hp : w.H p = none) : RC K w { w with H := upd w.H p o } c (.ref p) := by
  obtain ⟨h1, h2, h3, h4⟩ := new_ok s (o := o) hp
  refine ⟨p, rfl, hp, h3, h.live, ?_⟩
  have hu : upd w.H p o p = some o := upd_same
  cases c with
  | lst xs =>
    cases o with
    | lst vs => exact ⟨h4, vs, hu, h⟩
    | _ => cases h
  | dct xs =>
    cases o with
    | dK vs => exact ⟨h4, vs, hu, h⟩
    | _ => cases h
  | dcu xs =>
    cases o with
    | dT vs => exact ⟨h4, vs, hu, h⟩
    | _ => cases h
  | obj => cases o <;> cases h
  | frz => cases o <;> cases h
theorem at_new {w : Wd} {t : VK → Prop} {o : Option Cell} (h : StOk K w → ∀ c, o = some c → ∃ ob, CellO K w c ob ∧ ∀ Q : VK, (∀ p, w.H p = none → Q (.ref p) (upd w.H p ob)) → t Q) : At K E w t (mof o) (RC K) := fun s r e Q q _ => by
  unfold mof at e
  cases o with
  | none => cases e
  | some c =>
    cases e
    obtain ⟨ob, h1, h2⟩ := h s c rfl
    refine h2 Q fun p hp => ?_
    obtain ⟨n1, n2, n3, n4⟩ := new_ok s (o := ob) hp
    exact q c { w with H := upd w.H p ob } (.ref p) rfl n2 n1 (new_rc s h1 hp)
/-- a slice of a list -/
def slL (x : T) (l u : Option Int) : M Cell := fun μ => (mof ((lstOf μ (rd μ x)).map fun xs => Cell.lst (cutL xs l u))) μ
def cSlL (f : EF) (l u : OF) : CF := fun ρ => mbind (f ρ) fun x => mbind (l ρ) fun lo => mbind (u ρ) fun hi => slL x lo hi
theorem pc_slL {e : Expr} {lo hi : Option Expr} {te : TE} {tl tu : TO} {f : EF} {l u : OF} {p2 pos : Pos} (h : PD K X E e te f) (hl : PO' K X E lo tl l) (hu : PO' K X E hi tu u) (hK : X.K = K := by rfl) : PCr K X E (.Subscript e (.Slice lo hi none p2) pos) (tSl (rSlL K) te tl tu) (cSlL f l u) := by
  subst hK
  obtain ⟨a1, a2⟩ := h
  obtain ⟨b1, b2⟩ := hl
  obtain ⟨c1, c2⟩ := hu
  refine ⟨pe_slice sl_list a1 b1 c1, fun w σ ρ ev => ?_⟩
  show At X.K E w (fun Q => te σ w.H fun x H1 => tl σ H1 fun a H2 => tu σ H2 fun b H3 => rSlL X.K x a b H3 Q) _ _
  refine At.bind rc_m (a2 w σ ρ ev) fun x v w1 e1 s1 hx => At.bind rc_m (b2 w1 σ ρ (ev.ext e1)) fun a a' w2 e2 s2 ha => At.bind rc_m (c2 w2 σ ρ ((ev.ext e1).ext e2)) fun b b' w3 e3 s3 hb => ?_
  cases ha
  cases hb
  refine at_new (o := (lstOf w3.μ (rd w3.μ x)).map fun xs => Cell.lst (cutL xs a b)) fun s c hc => ?_
  obtain ⟨xs, h1, h2⟩ := Option.map_eq_some_iff.mp hc
  obtain ⟨p, vs, h3, h4, h5⟩ := lst_ok s (rd_ok s (e3.t (e2.t hx))) h1
  rw [← h2]
  refine ⟨.lst (cutV vs a b), ?_, fun Q q => ⟨p, vs, h3, h4, q⟩⟩
  show Paired _ (cutL xs a b) (cutV vs a b)
  unfold cutL cutV
  rw [pd_len h5]
  exact pd_take _ (pd_drop _ h5)
end
end Fm
set_option Elab.async false
set_option linter.all false
set_option maxRecDepth 100000
namespace Fm
open PySem L2 PySem.Spec PyProof.Rows
section
variable {X : Cx} {E : XK} {K : PySem.W.Frag}

/-! ### displays -/
def cLst (f : AF) : CF := fun ρ => mbind (f ρ) fun xs => mof (if xs.length ≤ SL then some (.lst xs) else none)
theorem pc_lst {es : List Expr} {t : TA} {f : AF} {pos : Pos} (h : PL K X E es t f) : PCr K X E (.List es pos) (tLst t) (cLst f) := by
  refine ⟨pe_lst h.pe, fun w σ ρ ev => ?_⟩
  show At K E w (fun Q => t σ w.H fun xs H1 => xs.length ≤ sizeLine ∧ ∀ p, H1 p = none → Q (V.ref p) (upd H1 p (.lst xs))) _ _
  refine At.bind rc_m (h.ok w σ ρ ev) fun xs vs w1 e1 s1 hx => ?_
  have q := at_new (E := E) (w := w1) (t := fun Q => vs.length ≤ sizeLine ∧ ∀ p, w1.H p = none → Q (.ref p) (upd w1.H p (.lst vs))) (o := if xs.length ≤ SL then some (Cell.lst xs) else none) (K := K) fun s c hc => by
    split at hc
    · rename_i hl
      cases hc
      exact ⟨.lst vs, hx, fun Q q => ⟨by rw [← pd_len hx]; exact le_SL hl, q⟩⟩
    · cases hc
  exact q
def cDct0 : CF := fun _ => mret (.dct [])
theorem pc_dct0 {pos : Pos} : PCr K X E (.Dict [] [] pos) tDNewK cDct0 := by
  refine ⟨pe_dnewK, fun w σ ρ ev => ?_⟩
  have q := at_new (E := E) (w := w) (t := fun Q => ∀ p, w.H p = none → Q (.ref p) (upd w.H p (.dK []))) (o := some (Cell.dct [])) (K := K) fun s c hc => by
    cases hc
    exact ⟨.dK [], .nil, fun Q q => q⟩
  exact q
/-- a tuple of data -/
def eTup (f : AF) : EF := fun ρ => mbind (f ρ) fun xs μ => match dTs μ xs with
  | some ds => if xs.length ≤ SL then some (.ok (.d (.tup ds)) μ) else none
  | none => none
theorem pd_tup {es : List Expr} {t : TA} {f : AF} {k pos} (h : PL K X E es t f) : PD K X E (.Tuple es k pos) (tTup t) (eTup f) := by
  refine ⟨pe_tup h.pe, fun w σ ρ ev => ?_⟩
  show At K E w (fun Q => t σ w.H fun xs H1 => xs.length ≤ sizeLine ∧ ∀ p, H1 p = none → Q (V.ref p) (upd H1 p (.tup xs))) _ _
  refine At.bind rv_m (h.ok w σ ρ ev) fun xs vs w1 e1 s1 hx => ?_
  intro s r e Q k1 k2
  have e : (match dTs w1.μ xs with
    | some ds => if xs.length ≤ SL then some (Rs.ok (T.d (.tup ds)) w1.μ) else none
    | none => none) = some r := e
  split at e
  · rename_i ds hd
    split at e
    · rename_i hl
      cases e
      refine ⟨by rw [← pd_len hx]; exact le_SL hl, fun p hp => ?_⟩
      obtain ⟨n1, n2, n3, n4⟩ := new_ok s (o := .tup vs) hp
      have hF : ({ w1 with H := upd w1.H p (.tup vs) } : Wd).F p = none := n4
      have hat : ({ w1 with H := upd w1.H p (.tup vs) } : Wd).H p = some (.tup vs) := upd_same
      have sm := fz_same hF w1.μ
      refine k1 (.d (.tup ds)) (({ w1 with H := upd w1.H p (.tup vs) } : Wd).fz p w1.μ) (.ref p) rfl ⟨n2.sub.trans sm, n2.pre, n2.dom, n2.keep, fun b h1 h2 h3 => ?_, n2.lv, n2.new⟩ ⟨fun b o' q => ?_, n1.len, n1.nd, n1.tr, fun n b c q1 q2 => ?_⟩ ?_
      · show (if b = p then upd w1.H p (.tup vs) p else w1.F b) = none
        rw [if_neg (fun z => h2 (by rw [z]; exact hp))]
        exact h1
      · show upd w1.H p (.tup vs) b = some o'
        by_cases hb : b = p
        · have q : (if b = p then upd w1.H p (.tup vs) p else w1.F b) = some o' := q
          rw [if_pos hb] at q
          rw [hb]
          exact q
        · have q : (if b = p then upd w1.H p (.tup vs) p else w1.F b) = some o' := q
          rw [if_neg hb] at q
          exact n1.sub b o' q
      · refine (n1.cell n b c q1 q2).rep sm (List.prefix_refl _) (fun l => ?_) fun _ => rfl
        show (if b = p then upd w1.H p (.tup vs) p else w1.F b) = none
        rw [if_neg (fun z => n3 (by rw [← z]; exact List.mem_of_getElem? q1))]
        exact ((n1.cell n b c q1 q2).nn l).1
      · exact ⟨p, vs, rfl, fz_at hat, (dTs_ok s hx hd).mono sm⟩
    · cases e
  · cases e

/-! ### calls of what is built in -/
abbrev RCall := List V → Hp → VK → Prop
def CallV (K : PySem.W.Frag) (r : RCall) (g : Mu → List T → Option T) : Prop := ∀ (w : Wd) (xs : List T) (vs : List V) (z : T), StOk K w → Paired (w.t K) xs vs → g w.μ xs = some z → ∃ v, w.t K z v ∧ ∀ Q : VK, Q v w.H → r vs w.H Q
def CallN (K : PySem.W.Frag) (r : RCall) (g : Mu → List T → Option Cell) : Prop := ∀ (w : Wd) (xs : List T) (vs : List V) (c : Cell), StOk K w → Paired (w.t K) xs vs → g w.μ xs = some c → ∃ o, CellO K w c o ∧ ∀ Q : VK, (∀ p, w.H p = none → Q (.ref p) (upd w.H p o)) → r vs w.H Q
structure BI (K : PySem.W.Frag) (X : Cx) (f : Value) (r : RCall) (g : Mu → List T → Option T) : Prop where
  call : CallR X f r
  ok : CallV K r g
structure BN (K : PySem.W.Frag) (X : Cx) (f : Value) (r : RCall) (g : Mu → List T → Option Cell) : Prop where
  call : CallR X f r
  ok : CallN K r g
theorem rds_ok {w : Wd} (s : StOk K w) : ∀ {xs : List T} {vs : List V}, Paired (w.t K) xs vs → Paired (w.t K) (xs.map (rd w.μ)) vs
  | _, _, .nil => .nil
  | _, _, .cons a b => .cons (rd_ok s a) (rds_ok s b)
def ofG {α : Type} (g : Mu → List T → Option α) (xs : List T) : M α := fun μ => mof (g μ (xs.map (rd μ))) μ
def eB (g : Mu → List T → Option T) (f : AF) : EF := fun ρ => mbind (f ρ) (ofG g)
def cB (g : Mu → List T → Option Cell) (f : AF) : CF := fun ρ => mbind (f ρ) (ofG g)
theorem eok_B {r : RCall} {g : Mu → List T → Option T} {t : TA} {f : AF} (c : CallV K r g) (h : LOk K E t f) : EOk K E (tCB r t) (eB g f) := fun w σ ρ ev => by
  show At K E w (fun Q => t σ w.H fun vs H1 => r vs H1 Q) _ _
  refine At.bind rv_m (h w σ ρ ev) fun xs vs w1 e1 s1 hx => ?_
  have q := At.pure (K := K) (E := E) (w := w1) (t := r vs w1.H) (o := g w1.μ (xs.map (rd w1.μ))) (R := RV K) fun s a ha => c w1 _ vs a s (rds_ok s hx) ha
  exact q
theorem cok_B {r : RCall} {g : Mu → List T → Option Cell} {t : TA} {f : AF} (c : CallN K r g) (h : LOk K E t f) : COk K E (tCB r t) (cB g f) := fun w σ ρ ev => by
  show At K E w (fun Q => t σ w.H fun vs H1 => r vs H1 Q) _ _
  refine At.bind rc_m (h w σ ρ ev) fun xs vs w1 e1 s1 hx => ?_
  have q := at_new (K := K) (E := E) (w := w1) (t := r vs w1.H) (o := g w1.μ (xs.map (rd w1.μ))) fun s a ha => c w1 _ vs a s (rds_ok s hx) ha
  exact q
section
variable {e : Expr} {es : List Expr} {t : TA} {f : AF} {r : RCall} {p pos : Pos} {x : Str} {id : String}
theorem pd_B {g : Mu → List T → Option T} (b : BI K X (.builtin id) r g) (hm : X.mg x = none) (hv : bootBuiltins x = some (.builtin id)) (ha : PL K X E (e :: es) t f) (hg : Gl X x := by rfl) (hn : x ≠ "__name__" := by decide) (hdb : (x == ("__debug__" : Str)) = false := by decide)
    (he : starEach (e :: es) X.env = (false, eval e X.env) :: starEach es X.env := by rfl) (hpl : (backTo pos (starEach es X.env)).any (·.1) = false := by rfl) : PD K X E (.Call (.Name x p) (e :: es) [] pos) (tCB r t) (eB g f) := ⟨pe_callB b.call hg hm hv ha.pe hn hdb he hpl, eok_B b.ok ha.ok⟩
theorem pd_Ty {g : Mu → List T → Option T} (b : BI K X (.type id) r g) (hm : X.mg x = none) (hv : bootBuiltins x = some (.type id)) (ha : PL K X E (e :: es) t f) (hg : Gl X x := by rfl) (hn : x ≠ "__name__" := by decide) (hdb : (x == ("__debug__" : Str)) = false := by decide)
    (he : starEach (e :: es) X.env = (false, eval e X.env) :: starEach es X.env := by rfl) (hpl : (backTo pos (starEach es X.env)).any (·.1) = false := by rfl) : PD K X E (.Call (.Name x p) (e :: es) [] pos) (tCB r t) (eB g f) := ⟨pe_callTy b.call hg hm hv ha.pe hn hdb he hpl, eok_B b.ok ha.ok⟩
theorem pc_B {g : Mu → List T → Option Cell} (b : BN K X (.builtin id) r g) (hm : X.mg x = none) (hv : bootBuiltins x = some (.builtin id)) (ha : PL K X E (e :: es) t f) (hg : Gl X x := by rfl) (hn : x ≠ "__name__" := by decide) (hdb : (x == ("__debug__" : Str)) = false := by decide)
    (he : starEach (e :: es) X.env = (false, eval e X.env) :: starEach es X.env := by rfl) (hpl : (backTo pos (starEach es X.env)).any (·.1) = false := by rfl) : PCr K X E (.Call (.Name x p) (e :: es) [] pos) (tCB r t) (cB g f) := ⟨pe_callB b.call hg hm hv ha.pe hn hdb he hpl, cok_B b.ok ha.ok⟩
theorem pc_Ty {g : Mu → List T → Option Cell} (b : BN K X (.type id) r g) (hm : X.mg x = none) (hv : bootBuiltins x = some (.type id)) (ha : PL K X E (e :: es) t f) (hg : Gl X x := by rfl) (hn : x ≠ "__name__" := by decide) (hdb : (x == ("__debug__" : Str)) = false := by decide)
    (he : starEach (e :: es) X.env = (false, eval e X.env) :: starEach es X.env := by rfl) (hpl : (backTo pos (starEach es X.env)).any (·.1) = false := by rfl) : PCr K X E (.Call (.Name x p) (e :: es) [] pos) (tCB r t) (cB g f) := ⟨pe_callTy b.call hg hm hv ha.pe hn hdb he hpl, cok_B b.ok ha.ok⟩
end
/-- len -/
def lenT (μ : Mu) (x : T) : Option Nat := match x with
  | .d (.str z) => if z.length ≤ SL then some z.length else none
  | x => match lstOf μ x with
    | some xs => some xs.length
    | none => match tupOf x with
      | some xs => some xs.length
      | none => match dctOf μ x with
        | some kvs => some kvs.length
        | none => none
def gLen (μ : Mu) (xs : List T) : Option T := match xs with
  | [x] => (lenT μ x).map fun (n : Nat) => T.d (.int (n : Int))
  | _ => none
def rLenA (K : PySem.W.Frag) : RCall := fun xs H Q => (∃ x n, xs = [x] ∧ LenV K x H n ∧ Q (.int n) H) ∨ ∃ a kvs, xs = [V.ref a] ∧ Rd H a (.dK kvs) ∧ Q (.int kvs.length) H
theorem len_v {w : Wd} {x : T} {v : V} {n : Nat} (s : StOk K w) (hx : w.t K x v) (e : lenT w.μ x = some n) : LenV K v w.H n ∨ ∃ a kvs, v = .ref a ∧ Rd w.H a (.dK kvs) ∧ n = kvs.length := by
  unfold lenT at e
  split at e
  · rename_i z
    rw [show v = .str z from hx]
    split at e
    · rename_i hz
      cases e
      exact .inl ⟨le_SL hz, rfl⟩
    · cases e
  · split at e
    · rename_i xs hl
      cases e
      obtain ⟨a, vs, h1, h2, h3⟩ := lst_ok s hx hl
      rw [h1]
      exact .inl (.inl ⟨vs, h2, pd_len h3⟩)
    · split at e
      · rename_i xs hl
        cases e
        obtain ⟨a, vs, h1, h2, h3⟩ := tup_ok s hx hl
        rw [h1]
        exact .inl (.inr ⟨vs, .of h2, by rw [← pd_len h3, List.length_map]⟩)
      · split at e
        · rename_i kvs hd
          cases e
          obtain ⟨a, vs, h1, h2, h3⟩ := dct_ok s hx hd
          exact .inr ⟨a, vs, h1, h2, pd_len h3⟩
        · cases e
theorem one_of {w : Wd} {x : T} {vs : List V} (h : Paired (w.t K) [x] vs) : ∃ v, vs = [v] ∧ w.t K x v := by
  cases h with
  | cons a b => cases b; exact ⟨_, rfl, a⟩
theorem two_of {w : Wd} {x y : T} {vs : List V} (h : Paired (w.t K) [x, y] vs) : ∃ v u, vs = [v, u] ∧ w.t K x v ∧ w.t K y u := by
  cases h with
  | cons a b => cases b with
    | cons c d => cases d; exact ⟨_, _, rfl, a, c⟩
theorem call_lenR : CallR X (.builtin "len") (fun xs H Q => ∃ a kvs, xs = [V.ref a] ∧ Rd H a (.dK kvs) ∧ Q (.int kvs.length) H) := by
  intro pins s σ H xs us Q I r h
  obtain ⟨a, kvs, rfl, ha, q⟩ := h
  obtain ⟨u, rfl, ru⟩ := vals1 r
  cases ru
  exact d_len I ha fun t s' I' => ⟨.int kvs.length, H, I', ⟨t, rfl⟩, q⟩
theorem bi_len (hK : X.K = K := by rfl) : BI K X (.builtin "len") (rLenA K) gLen := by
  subst hK
  refine ⟨call_len.or call_lenR, fun w xs vs z s hx e => ?_⟩
  unfold gLen at e
  split at e
  · obtain ⟨v, rfl, hv⟩ := one_of hx
    obtain ⟨n, h1, h2⟩ := Option.map_eq_some_iff.mp e
    rw [← h2]
    refine ⟨.int n, rfl, fun Q q => ?_⟩
    rcases len_v s hv h1 with k | ⟨a, kvs, k1, k2, k3⟩
    · exact .inl ⟨v, n, rfl, k, q⟩
    · exact .inr ⟨a, kvs, by rw [k1], k2, by rw [← k3]; exact q⟩
  · cases e
def gAbs (_ : Mu) (xs : List T) : Option T := match xs with
  | [.d (.int i)] => some (.d (.int (if i < 0 then -i else i)))
  | _ => none
theorem bi_abs : BI K X (.builtin "abs") (fun xs H Q => ∃ i, xs = [.int i] ∧ Q (.int (if i < 0 then -i else i)) H) gAbs := ⟨call_abs, fun w xs vs z s hx e => by
  unfold gAbs at e
  split at e
  · rename_i i
    obtain ⟨v, rfl, hv⟩ := one_of hx
    cases e
    exact ⟨_, rfl, fun Q q => ⟨i, by rw [show v = .int i from hv], q⟩⟩
  · cases e⟩
def gMax (_ : Mu) (xs : List T) : Option T := match xs with
  | [.d (.int i), .d (.int j)] => some (.d (.int (if j > i then j else i)))
  | _ => none
def gMin (_ : Mu) (xs : List T) : Option T := match xs with
  | [.d (.int i), .d (.int j)] => some (.d (.int (if j < i then j else i)))
  | _ => none
theorem bi_max (hc : X.calm = true := by rfl) : BI K X (.builtin "max") (fun xs H Q => ∃ i j, xs = [.int i, .int j] ∧ Q (.int (if j > i then j else i)) H) gMax := ⟨call_max2 hc, fun w xs vs z s hx e => by
  unfold gMax at e
  split at e
  · rename_i i j
    obtain ⟨v, u, rfl, hv, hu⟩ := two_of hx
    cases e
    exact ⟨_, rfl, fun Q q => ⟨i, j, by rw [show v = .int i from hv, show u = .int j from hu], q⟩⟩
  · cases e⟩
theorem bi_min (hc : X.calm = true := by rfl) : BI K X (.builtin "min") (fun xs H Q => ∃ i j, xs = [.int i, .int j] ∧ Q (.int (if j < i then j else i)) H) gMin := ⟨call_min2 hc, fun w xs vs z s hx e => by
  unfold gMin at e
  split at e
  · rename_i i j
    obtain ⟨v, u, rfl, hv, hu⟩ := two_of hx
    cases e
    exact ⟨_, rfl, fun Q q => ⟨i, j, by rw [show v = .int i from hv, show u = .int j from hu], q⟩⟩
  · cases e⟩
def gInt (_ : Mu) (xs : List T) : Option T := match xs with
  | [.d (.int i)] => some (.d (.int i))
  | [.d (.bl b)] => some (.d (.int (if b then 1 else 0)))
  | _ => none
theorem bi_int : BI K X (.type "int") (fun xs H Q => (∃ i, xs = [.int i] ∧ Q (.int i) H) ∨ ∃ k, xs = [.bl k] ∧ Q (.int (if k then 1 else 0)) H) gInt := ⟨call_int1, fun w xs vs z s hx e => by
  unfold gInt at e
  split at e
  · rename_i i
    obtain ⟨v, rfl, hv⟩ := one_of hx
    cases e
    exact ⟨_, rfl, fun Q q => .inl ⟨i, by rw [show v = .int i from hv], q⟩⟩
  · rename_i b
    obtain ⟨v, rfl, hv⟩ := one_of hx
    cases e
    exact ⟨_, rfl, fun Q q => .inr ⟨b, by rw [show v = .bl b from hv], q⟩⟩
  · cases e⟩
def gStr (_ : Mu) (xs : List T) : Option T := match xs with
  | [.d (.int i)] => if i.natAbs.log2 < 1920 then some (.d (.str (toString i))) else none
  | _ => none
theorem bi_str : BI K X (.type "str") (fun xs H Q => ∃ i, xs = [.int i] ∧ i.natAbs.log2 < 1920 ∧ Q (.str (toString i)) H) gStr := ⟨call_str_int, fun w xs vs z s hx e => by
  unfold gStr at e
  split at e
  · rename_i i
    obtain ⟨v, rfl, hv⟩ := one_of hx
    split at e
    · rename_i hi
      cases e
      exact ⟨_, rfl, fun Q q => ⟨i, by rw [show v = .int i from hv], hi, q⟩⟩
    · cases e
  · cases e⟩
/-- all, any of truths -/
def blsOf : List T → Option (List Bool)
  | [] => some []
  | .d (.bl b) :: r => (blsOf r).map (b :: ·)
  | _ :: _ => none
theorem bls_ok {w : Wd} : ∀ {xs : List T} {vs : List V} {bs : List Bool}, Paired (w.t K) xs vs → blsOf xs = some bs → vs = bs.map V.bl
  | _, _, _, .nil, e => by cases e; rfl
  | x :: xs, v :: vs, bs, .cons h t, e => by
    unfold blsOf at e
    split at e
    · rename_i hq
      cases hq
    · rename_i b r hq
      cases hq
      obtain ⟨cs, h1, h2⟩ := Option.map_eq_some_iff.mp e
      rw [← h2, bls_ok t h1, show v = .bl b from h] <;> rfl
    · cases e
def gAll (μ : Mu) (xs : List T) : Option T := match xs with
  | [x] => (lstOf μ x).bind fun ys => (blsOf ys).map fun bs => .d (.bl (bs.all id))
  | _ => none
def gAny (μ : Mu) (xs : List T) : Option T := match xs with
  | [x] => (lstOf μ x).bind fun ys => (blsOf ys).map fun bs => .d (.bl (bs.any id))
  | _ => none
theorem bi_all (hc : X.calm = true := by rfl) (hK : X.K = K := by rfl) : BI K X (.builtin "all") (rAll K) gAll := by
  subst hK
  refine ⟨cr_all hc, fun w xs vs z s hx e => ?_⟩
  unfold gAll at e
  split at e
  · obtain ⟨v, rfl, hv⟩ := one_of hx
    obtain ⟨ys, h1, h2⟩ := Option.bind_eq_some_iff.mp e
    obtain ⟨bs, h3, h4⟩ := Option.map_eq_some_iff.mp h2
    obtain ⟨a, us, h5, h6, h7⟩ := lst_ok s hv h1
    rw [← h4]
    exact ⟨_, rfl, fun Q q => ⟨a, bs, by rw [h5], by rw [← bls_ok h7 h3]; exact h6, q⟩⟩
  · cases e
theorem bi_any (hc : X.calm = true := by rfl) (hK : X.K = K := by rfl) : BI K X (.builtin "any") (rAny K) gAny := by
  subst hK
  refine ⟨cr_any hc, fun w xs vs z s hx e => ?_⟩
  unfold gAny at e
  split at e
  · obtain ⟨v, rfl, hv⟩ := one_of hx
    obtain ⟨ys, h1, h2⟩ := Option.bind_eq_some_iff.mp e
    obtain ⟨bs, h3, h4⟩ := Option.map_eq_some_iff.mp h2
    obtain ⟨a, us, h5, h6, h7⟩ := lst_ok s hv h1
    rw [← h4]
    exact ⟨_, rfl, fun Q q => ⟨a, bs, by rw [h5], by rw [← bls_ok h7 h3]; exact h6, q⟩⟩
  · cases e
/-- sorted of texts, or of a dict's keys that are texts -/
def strsOf : List T → Option (List Str)
  | [] => some []
  | .d (.str b) :: r => (strsOf r).map (b :: ·)
  | _ :: _ => none
def keysOf {α : Type} : List (Key × α) → Option (List Str)
  | [] => some []
  | (.inr b, _) :: r => (keysOf r).map (b :: ·)
  | _ :: _ => none
theorem strs_ok {w : Wd} : ∀ {xs : List T} {vs : List V} {bs : List Str}, Paired (w.t K) xs vs → strsOf xs = some bs → vs = bs.map V.str
  | _, _, _, .nil, e => by cases e; rfl
  | x :: xs, v :: vs, bs, .cons h t, e => by
    unfold strsOf at e
    split at e
    · rename_i hq
      cases hq
    · rename_i b r hq
      cases hq
      obtain ⟨cs, h1, h2⟩ := Option.map_eq_some_iff.mp e
      rw [← h2, strs_ok t h1, show v = .str b from h] <;> rfl
    · cases e
theorem keys_ok {R : T → V → Prop} : ∀ {xs : List (Key × T)} {vs : List (Key × V)} {bs : List Str}, Paired (fun p q => p.1 = q.1 ∧ R p.2 q.2) xs vs → keysOf xs = some bs → vs.map (·.1) = bs.map Sum.inr
  | _, _, _, .nil, e => by cases e; rfl
  | (k, x) :: xs, (k', v) :: vs, bs, .cons h t, e => by
    obtain ⟨h0, _⟩ := h
    cases h0
    unfold keysOf at e
    split at e
    · rename_i hq
      cases hq
    · rename_i b y r hq
      cases hq
      obtain ⟨cs, h1, h2⟩ := Option.map_eq_some_iff.mp e
      rw [← h2]
      show _ :: vs.map (·.1) = _
      rw [keys_ok t h1] <;> rfl
    · cases e
def sortT (ks : List Str) : Option Cell := if ks.length < 64 then some (.lst ((sortS ks).map fun s => .d (.str s))) else none
def gSorted (μ : Mu) (xs : List T) : Option Cell := match xs with
  | [x] => match lstOf μ x with
    | some ys => (strsOf ys).bind sortT
    | none => (dctOf μ x).bind fun kvs => (keysOf kvs).bind sortT
  | _ => none
theorem str_paired {w : Wd} : ∀ ks : List Str, Paired (w.t K) (ks.map fun s => T.d (.str s)) (ks.map V.str)
  | [] => .nil
  | k :: r => .cons rfl (str_paired r)
def rSortedA (K : PySem.W.Frag) : RCall := fun xs H Q => rSortedS K xs H Q ∨ ∃ (a : Addr) (kvs : List (Key × V)) (ks : List Str), xs = [.ref a] ∧ Rd H a (.dK kvs) ∧ kvs.map (·.1) = ks.map Sum.inr ∧ ks.length < 64 ∧
    ∀ ys p, ys.Perm ks → sortedS ys = true → H p = none → Q (.ref p) (upd H p (.lst (ys.map V.str)))
theorem bn_sorted (hc : X.calm = true := by rfl) (hK : X.K = K := by rfl) : BN K X (.builtin "sorted") (rSortedA K) gSorted := by
  subst hK
  refine ⟨cr_sortedS.or (call_sortedD hc), fun w xs vs c s hx e => ?_⟩
  unfold gSorted at e
  split at e
  · obtain ⟨v, rfl, hv⟩ := one_of hx
    split at e
    · rename_i ys hl
      obtain ⟨ks, h1, h2⟩ := Option.bind_eq_some_iff.mp e
      obtain ⟨a, us, h5, h6, h7⟩ := lst_ok s hv hl
      unfold sortT at h2
      split at h2
      · rename_i h64
        cases h2
        refine ⟨.lst ((sortS ks).map V.str), str_paired _, fun Q q => .inl ⟨a, ks, by rw [h5], by rw [← strs_ok h7 h1]; exact h6, h64, fun ys p hp hs hn => ?_⟩⟩
        rw [sorted_is hp hs]
        exact q p hn
      · cases h2
    · obtain ⟨kvs, h0, h1⟩ := Option.bind_eq_some_iff.mp e
      obtain ⟨ks, h1b, h2⟩ := Option.bind_eq_some_iff.mp h1
      obtain ⟨a, us, h5, h6, h7⟩ := dct_ok s hv h0
      unfold sortT at h2
      split at h2
      · rename_i h64
        cases h2
        refine ⟨.lst ((sortS ks).map V.str), str_paired _, fun Q q => .inr ⟨a, us, ks, by rw [h5], h6, keys_ok h7 h1b, h64, fun ys p hp hs hn => ?_⟩⟩
        rw [sorted_is hp hs]
        exact q p hn
      · cases h2
  · cases e
/-- list(xs), dict(d): copies -/
def gList (μ : Mu) (xs : List T) : Option Cell := match xs with
  | [x] => (lstOf μ x).map Cell.lst
  | _ => none
theorem bn_list (hK : X.K = K := by rfl) : BN K X (.type "list") (fun xs H Q => ∃ p ys, xs = [.ref p] ∧ (SqL K H p ys ∨ SqT K H p ys) ∧ ∀ l, H l = none → Q (.ref l) (upd H l (.lst ys))) gList := by
  subst hK
  refine ⟨call_list_of, fun w xs vs c s hx e => ?_⟩
  unfold gList at e
  split at e
  · obtain ⟨v, rfl, hv⟩ := one_of hx
    obtain ⟨ys, h1, h2⟩ := Option.map_eq_some_iff.mp e
    obtain ⟨a, us, h5, h6, h7⟩ := lst_ok s hv h1
    rw [← h2]
    exact ⟨.lst us, h7, fun Q q => ⟨a, us, by rw [h5], .inl h6, q⟩⟩
  · cases e
def gDict (μ : Mu) (xs : List T) : Option Cell := match xs with
  | [x] => (dctOf μ x).map Cell.dct
  | _ => none
theorem bn_dict : BN K X (.type "dict") (fun xs H Q => ∃ a kvs, xs = [.ref a] ∧ Rd H a (.dK kvs) ∧ ∀ l, H l = none → Q (.ref l) (upd H l (.dK kvs))) gDict := by
  refine ⟨fun pins s σ H xs us Q I r h => ?_, fun w xs vs c s hx e => ?_⟩
  · obtain ⟨a, kvs, rfl, ha, q⟩ := h
    obtain ⟨u, rfl, ru⟩ := vals1 r
    cases ru
    exact d_copyOf I ha fun p s' hp I' => ⟨.ref p, _, I', rfl, q p hp⟩
  · unfold gDict at e
    split at e
    · obtain ⟨v, rfl, hv⟩ := one_of hx
      obtain ⟨ys, h1, h2⟩ := Option.map_eq_some_iff.mp e
      obtain ⟨a, us, h5, h6, h7⟩ := dct_ok s hv h1
      rw [← h2]
      exact ⟨.dK us, h7, fun Q q => ⟨a, us, by rw [h5], h6, q⟩⟩
    · cases e
/-- isinstance(x, T), T a built-in type -/
@[simp] def tyOf (μ : Mu) : T → Option String
  | .d .non => some "NoneType"
  | .d (.bl _) => some "bool"
  | .d (.int _) => some "int"
  | .d (.str _) => some "str"
  | .d (.lst _) => some "list"
  | .d (.tup _) => some "tuple"
  | .d (.dct _) => some "dict"
  | .d (.kl _) => none
  | .p n => match μ[n]? with
    | some (.lst _) => some "list"
    | some (.dct _) => some "dict"
    | _ => none
@[simp] def isi (ty : String) (μ : Mu) (x : T) : Option T := (tyOf μ x).bind fun a => (kitB a ty).map fun b => .d (.bl b)
@[simp] def eIsi (ty : String) (f : EF) : EF := fun ρ => mbind (f ρ) fun x μ => mof (isi ty μ (rd μ x)) μ
theorem ty_v {w : Wd} {x : T} {v : V} {a : String} (s : StOk K w) (hx : w.t K x v) (e : tyOf w.μ x = some a) : TyX K w.H v (.type a) := by
  cases x with
  | d d =>
    cases d with
    | non => cases e; rw [show v = _ from hx]; exact .base .non
    | bl b => cases e; rw [show v = _ from hx]; exact .base (.bl b)
    | int b => cases e; rw [show v = _ from hx]; exact .base (.int b)
    | str b => cases e; rw [show v = _ from hx]; exact .base (.str b)
    | lst b => cases e; obtain ⟨a, vs, e1, e2, _⟩ := hx; rw [e1]; exact .base (.lst (s.sub _ _ e2))
    | tup b => cases e; obtain ⟨a, vs, e1, e2, _⟩ := hx; rw [e1]; exact .base (.tup (s.sub _ _ e2))
    | dct b => cases e; obtain ⟨a, vs, e1, e2, _⟩ := hx; rw [e1]; exact (same_rd s.sub e2).elim (fun q => .base (.dK q)) fun ⟨o, q⟩ => .fDict q
    | kl b => cases e
  | p n =>
    obtain ⟨a, h1, h2⟩ := hx
    rw [h2]
    unfold tyOf at e
    split at e <;> try (rename_i hq; cases hq)
    split at e
    · rename_i n' hq xs hn
      cases e
      obtain ⟨_, vs, q1, _⟩ := s.cell n a _ h1 hn
      exact .base (.lst q1)
    · rename_i n' hq xs hn
      cases e
      obtain ⟨_, vs, q1, _⟩ := s.cell n a _ h1 hn
      exact .base (.dK q1)
    · cases e
theorem pd_isi {a : Expr} {ta : TE} {fa : EF} {p p2 pos : Pos} {x : Str} {ty : String} (ha : PD K X E a ta fa) (hm : X.mg "isinstance" = none) (hmx : X.mg x = none) (hv : bootBuiltins x = some (.type ty)) (hg : Gl X "isinstance" := by rfl) (hgx : Gl X x := by rfl) (hK : X.K = K := by rfl)
    (hn : x ≠ "__name__" := by decide) (hd : (x == ("__debug__" : Str)) = false := by decide)
    (he : starEach (a :: [.Name x p2]) X.env = (false, eval a X.env) :: starEach [.Name x p2] X.env := by rfl) (hpl : (backTo pos (starEach [.Name x p2] X.env)).any (·.1) = false := by rfl) :
    PD K X E (.Call (.Name "isinstance" p) [a, .Name x p2] [] pos) (tCB (rIsi K) (tCons ta (tCons (tC (.ty ty)) tNil))) (eIsi ty fa) := by
  subst hK
  refine ⟨pe_callB call_isi hg hm (by decide +kernel) (pa_cons ha.pe (pa_cons (pe_bltn hgx hmx hv (show RelV (.ty ty) (.type ty) from rfl) hn hd) pa_nil) he) (by decide) (by decide) he hpl, fun w σ ρ ev => ?_⟩
  show At X.K E w (fun Q => ta σ w.H fun x H1 => rIsi X.K [x, V.ty ty] H1 Q) _ _
  refine At.bind rv_m (ha.ok w σ ρ ev) fun x v w1 e1 s1 hx => ?_
  have q := At.pure (K := X.K) (E := E) (w := w1) (t := rIsi X.K [v, .ty ty] w1.H) (o := isi ty w1.μ (rd w1.μ x)) (R := RV X.K) fun s b hb => by
    unfold isi at hb
    obtain ⟨ty0, h1, h2⟩ := Option.bind_eq_some_iff.mp hb
    obtain ⟨b', h3, h4⟩ := Option.map_eq_some_iff.mp h2
    rw [← h4]
    exact ⟨.bl b', rfl, fun Q q => ⟨v, .ty ty, .type ty0, .type ty, b', rfl, .ty ty, ty_v s (rd_ok s hx) h1, kit_ty h3, q⟩⟩
  exact q
end
end Fm
set_option Elab.async false
set_option linter.all false
set_option maxRecDepth 100000
namespace Fm
open PySem L2 PySem.Spec PyProof.Rows

/-! ### what a def promises -/
abbrev FN := List T → M T
def Ends' (K : PySem.W.Frag) (E : XK) (w : Wd) {α β : Type} (R : Wd → α → β → Prop) (Q : β → Hp → Prop) (r : Rs α) : Prop :=
  (∀ a w' b, r = .ok a w'.μ → Ext w w' → StOk K w' → R w' a b → Q b w'.H) ∧ (∀ x w' cls d, r = .ex x w'.μ → Ext w w' → StOk K w' → ExnOk K w' x cls d → E cls d w'.H)
def spM (K : PySem.W.Frag) (n : Nat) (fn : FN) : Sp := fun vs H Q E => vs.length = n ∧ ∃ (w : Wd) (xs : List T) (r : Rs T), w.H = H ∧ StOk K w ∧ Paired (w.t K) xs vs ∧ fn xs w.μ = some r ∧ Ends' K E w (fun w' a v => w'.t K a v) Q r
/-- the def called x stands, with n parameters, and does fn -/
structure Fn (P : Program) (w : World) (K : PySem.W.Frag) (mg : Str → Option Value) (base : Heap) (k : Nat) (x : Str) (n : Nat) (fn : FN) : Prop where
  ex : ∃ (f : Addr) (fd : FuncData) (ps : List Str), FnOk P w K mg base (L2.CX P w) k f fd ps (spM K n fn) ∧ mg x = some (.ref f) ∧ PySem.W.keepIn K (.ref f) = true ∧ Binds K fd ps [] ∧ ps.length = n
theorem Fn.mono {P : Program} {w : World} {K : PySem.W.Frag} {mg : Str → Option Value} {base : Heap} {j k : Nat} {x : Str} {n : Nat} {fn : FN} (h : Fn P w K mg base j x n fn) (l : j ≤ k) : Fn P w K mg base k x n fn :=
  let ⟨f, fd, ps, a, b⟩ := h.ex
  ⟨f, fd, ps, a.mono l, b⟩
theorem Fn.imp {P : Program} {w : World} {K : PySem.W.Frag} {mg : Str → Option Value} {base : Heap} {k : Nat} {x : Str} {n : Nat} {fn fn' : FN} (h : Fn P w K mg base k x n fn) (hi : ∀ xs μ r, fn' xs μ = some r → fn xs μ = some r) : Fn P w K mg base k x n fn' :=
  let ⟨f, fd, ps, a, b⟩ := h.ex
  ⟨f, fd, ps, a.imp fun vs H Q E ⟨h1, w, xs, r, h2, h3, h4, h5, h6⟩ => ⟨h1, w, xs, r, h2, h3, h4, hi _ _ _ h5, h6⟩, b⟩
/-- a place in a def's body (or a comprehension's block) -/
structure Bd (X : Cx) (E : XK) (k : Nat) : Prop where
  room : Room k X.A
  pas : Passes (L2.CX X.prog X.w) X E
  calm : X.calm = true
theorem Bd.hu {X : Cx} {E : XK} {k : Nat} (B : Bd X E k) : X.A.units + 1 < cLine := hu_of B.room
theorem At.use {K : PySem.W.Frag} {E : XK} {α β γ : Type} {w : Wd} {t : (β → Hp → Prop) → Prop} {f : M α} {R : RT α β} {g : α → M γ} {r : Rs γ} (h : At K E w t f R) (s : StOk K w) (e : mbind f g w.μ = some r) (Q : β → Hp → Prop)
    (h1 : ∀ a w1 b, f w.μ = some (.ok a w1.μ) → g a w1.μ = some r → Ext w w1 → StOk K w1 → R w w1 a b → Q b w1.H) (h2 : ∀ x w' cls d, r = .ex x w'.μ → Ext w w' → StOk K w' → ExnOk K w' x cls d → E cls d w'.H) : t Q := by
  unfold mbind at e
  cases hf : f w.μ with
  | none => rw [hf] at e; cases e
  | some r1 =>
    rw [hf] at e
    cases r1 with
    | ex y μ1 =>
      cases e
      exact h s _ hf _ (fun a w' b z => by cases z) fun y' w' cls d z => by cases z; exact h2 _ w' cls d rfl
    | ok a μ1 =>
      exact h s _ hf _ (fun a w1 b z e1 s1 k => by cases z; exact h1 _ w1 b hf e e1 s1 k) fun _ _ _ _ z => by cases z
section
variable {X : Cx} {E : XK} {K : PySem.W.Frag}
@[simp] def eDef (fn : FN) (f : AF) : EF := fun ρ => mbind (f ρ) fn
theorem eok_def {n : Nat} {fn : FN} {t : TA} {f : AF} (hn : ∀ ρ μ xs μ', f ρ μ = some (.ok xs μ') → xs.length = n) (h : LOk K E t f) : EOk K E (tCall (spM K n fn) [] E t) (eDef fn f) := fun w σ ρ ev s r e Q q1 q2 => by
  show t σ w.H fun vs H1 => spM K n fn (vs ++ []) H1 Q E
  refine At.use (h w σ ρ ev) s e _ (fun xs w' vs hf e e1 s1 k => ?_) q2
  have hl := hn _ _ _ _ hf
  refine ⟨by rw [List.append_nil, ← pd_len k]; exact hl, w', xs, r, rfl, s1, by rw [List.append_nil]; exact k, e, ?_, ?_⟩
  · exact fun a w2 b z e2 s2 k2 => q1 a w2 b z (e1.trans e2) s2 k2
  · exact fun x w2 cls d z e2 s2 k2 => q2 x w2 cls d z (e1.trans e2) s2 k2
/-- how many arguments are written -/
def ALen (f : AF) (n : Nat) : Prop := ∀ ρ μ xs μ', f ρ μ = some (.ok xs μ') → xs.length = n
theorem alen_nil : ALen aNil 0 := fun ρ μ xs μ' h => by cases h; rfl
theorem mbind_ok {α β : Type} {f : M α} {g : α → M β} {μ μ' : Mu} {b : β} (h : mbind f g μ = some (.ok b μ')) : ∃ a μ1, f μ = some (.ok a μ1) ∧ g a μ1 = some (.ok b μ') := by
  unfold mbind at h
  cases h1 : f μ with
  | none => rw [h1] at h; cases h
  | some r => cases r with
    | ex => rw [h1] at h; cases h
    | ok a μ1 => rw [h1] at h; exact ⟨a, μ1, rfl, h⟩
theorem alen_cons {f : EF} {g : AF} {n : Nat} (h : ALen g n) : ALen (aCons f g) (n + 1) := fun ρ μ xs μ' e => by
  obtain ⟨a, μ1, h1, e⟩ := mbind_ok e
  obtain ⟨ys, μ2, h2, e⟩ := mbind_ok e
  cases e
  rw [List.length_cons, h _ _ _ _ h2]
theorem pd_def {k n : Nat} {x : Str} {e : Expr} {es : List Expr} {p pos : Pos} {fn : FN} {t : TA} {f : AF} (B : Bd X E k) (F : Fn X.prog X.w K X.mg X.base k x n fn) (ha : PL K X E (e :: es) t f) (hn : ALen f n) (hg : Gl X x := by rfl) (hK : X.K = K := by rfl)
    (hdb : (x == ("__debug__" : Str)) = false := by decide) (he : starEach (e :: es) X.env = (false, eval e X.env) :: starEach es X.env := by rfl) (hpl : (backTo pos (starEach es X.env)).any (·.1) = false := by rfl) :
    PD K X E (.Call (.Name x p) (e :: es) [] pos) (tCall (spM K n fn) [] E t) (eDef fn f) := by
  subst hK
  obtain ⟨fa, fd, ps, h1, h2, h3, h4, h5⟩ := F.ex
  exact ⟨pe_call h1 B.room hg h2 h3 h4 .nil B.pas ha.pe hdb he hpl, eok_def hn ha.ok⟩
theorem pd_def0 {k : Nat} {x : Str} {p pos : Pos} {fn : FN} (B : Bd X E k) (F : Fn X.prog X.w K X.mg X.base k x 0 fn) (hg : Gl X x := by rfl) (hK : X.K = K := by rfl) (hdb : (x == ("__debug__" : Str)) = false := by decide) :
    PD K X E (.Call (.Name x p) [] [] pos) (tCall (spM K 0 fn) [] E tNil) (eDef fn aNil) := by
  subst hK
  obtain ⟨fa, fd, ps, h1, h2, h3, h4, h5⟩ := F.ex
  exact ⟨pe_call0 h1 B.room hg h2 h3 h4 .nil B.pas hdb, eok_def alen_nil (pl_nil (X := X)).ok⟩

/-! ### what is walked -/
/-- from w on, each turn's item: the world behind it, and what the item is -/
def Yields (K : PySem.W.Frag) (w : Wd) (xs : List T) (G : Hp → Prop) (Y : Nat → Hp → V → Hp → Prop) : Prop :=
  ∀ w1, Ext w w1 → StOk K w1 → G w1.H ∧ ∀ i x H', i < xs.length → Y i w1.H x H' → ∃ w2 t, w2.H = H' ∧ w2.μ = w1.μ ∧ Ext w1 w2 ∧ StOk K w2 ∧ xs[i]? = some t ∧ w2.t K t x
def IOk (K : PySem.W.Frag) (E : XK) (wi : TI) (f : AF) : Prop := ∀ w σ ρ, EnvOk K w σ ρ → StOk K w → ∀ r, f ρ w.μ = some r → ∀ R : It → Hp → Prop,
  (∀ xs w', r = .ok xs w'.μ → Ext w w' → StOk K w' → ∀ J G Y, Walk J xs.length G Y → Yields K w' xs G Y → R J w'.H) →
  (∀ x w' cls d, r = .ex x w'.μ → Ext w w' → StOk K w' → ExnOk K w' x cls d → E cls d w'.H) → wi σ w.H R
structure PIt (K : PySem.W.Frag) (X : Cx) (E : XK) (tg e : Expr) (wi : TI) (f : AF) : Prop where
  pe : PI X tg e wi
  ok : IOk K E wi f
/-- items that stand: the heap as it was -/
theorem yields_at {w : Wd} {xs : List T} {vs : List V} {G : Hp → Prop} {Y : Nat → Hp → V → Hp → Prop} (h : Paired (w.t K) xs vs) (hG : ∀ w1, Ext w w1 → StOk K w1 → G w1.H) (hY : ∀ i H x H', Y i H x H' → H' = H ∧ vs[i]? = some x) : Yields K w xs G Y := fun w1 e1 s1 => ⟨hG w1 e1 s1, fun i x H' hi y => by
  obtain ⟨h1, h2⟩ := hY i w1.H x H' y
  obtain ⟨t, h3, h4⟩ := pd_get' h h2
  exact ⟨w1, t, h1.symm, rfl, Ext.refl _, s1, h3, e1.t h4⟩⟩
/-- the items of data that is a list (or a written list, the script) -/
def lstD : T → Option (List T)
  | .d (.lst ds) => some (ds.map T.d)
  | .d (.kl ns) => some (ns.map fun i => T.d (.int i))
  | _ => none
theorem lstD_ok {w : Wd} {x : T} {v : V} {xs : List T} (hx : w.t K x v) (e : lstD x = some xs) : ∃ a vs, v = .ref a ∧ SqL K w.F a vs ∧ Paired (w.t K) xs vs := by
  unfold lstD at e
  split at e
  · cases e
    obtain ⟨a, vs, h1, h2, h3⟩ := hx
    exact ⟨a, vs, h1, .of h2, d_paired h3⟩
  · cases e
    obtain ⟨a, h1, h2⟩ := hx
    exact ⟨a, _, h1, h2, kl_paired _⟩
  · cases e
def iLst (f : EF) : AF := fun ρ => mbind (f ρ) fun x μ => mof (lstD (rd μ x)) μ
theorem it_lst {tg e : Expr} {t : TE} {f : EF} (h : PD K X E e t f) (hK : X.K = K := by rfl) : PIt K X E tg e (iList K t) (iLst f) := by
  subst hK
  refine ⟨pi_list h.pe, fun w σ ρ ev s r er R q1 q2 => ?_⟩
  show t σ w.H fun x H1 => ∃ a, x = .ref a ∧ (∃ xs, SqL X.K H1 a xs) ∧ R (Itl X.K a) H1
  refine At.use (h.ok w σ ρ ev) s er _ (fun x w1 v _ er2 e1 s2 hx => ?_) q2
  have er2 : mof (lstD (rd w1.μ x)) w1.μ = some r := er2
  unfold mof at er2
  cases hl : lstD (rd w1.μ x) with
  | none => rw [hl] at er2; cases er2
  | some xs =>
    rw [hl] at er2
    cases er2
    obtain ⟨a, vs, h1, h2, h3⟩ := lstD_ok (rd_ok s2 hx) hl
    refine ⟨a, h1, ⟨vs, s2.sub.seq h2⟩, ?_⟩
    have wk := walk_list (K := X.K) (a := a) (xs := vs)
    rw [← pd_len h3] at wk
    exact q1 xs w1 rfl e1 s2 _ _ _ wk (yields_at h3 (fun w2 e2 s3 => s3.sub.seq (e2.sub.seq h2)) fun i H x H' y => y)
/-- a text, sign by sign -/
def strD : T → Option (List T)
  | .d (.str z) => some (z.cps.toList.map fun c => T.d (.str ⟨#[c]⟩))
  | _ => none
def iStrD (f : EF) : AF := fun ρ => mbind (f ρ) fun x μ => mof (strD (rd μ x)) μ
theorem sig_paired {w : Wd} : ∀ cs : List Nat, Paired (w.t K) (cs.map fun c => T.d (.str ⟨#[c]⟩)) (cs.map fun c => V.str ⟨#[c]⟩)
  | [] => .nil
  | k :: r => .cons rfl (sig_paired r)
theorem it_str {tg e : Expr} {t : TE} {f : EF} (h : PD K X E e t f) : PIt K X E tg e (iStr t) (iStrD f) := by
  refine ⟨pi_str h.pe, fun w σ ρ ev s r er R q1 q2 => ?_⟩
  show t σ w.H fun v H1 => ∃ x, v = .str x ∧ R (Its x) H1
  refine At.use (h.ok w σ ρ ev) s er _ (fun x w1 v _ er2 e1 s2 hx => ?_) q2
  have er2 : mof (strD (rd w1.μ x)) w1.μ = some r := er2
  have hx := rd_ok s2 hx
  generalize rd w1.μ x = y at er2 hx
  unfold strD mof at er2
  split at er2
  · cases er2
  · rename_i xs hxs
    split at hxs
    · rename_i z
      cases hxs
      cases er2
      refine ⟨z, hx, ?_⟩
      have wk := walk_str (z := z)
      refine q1 _ w1 rfl e1 s2 _ (fun _ => True) (fun i H v H' => H' = H ∧ ∃ c, z.cps[i]? = some c ∧ v = .str ⟨#[c]⟩) ?_ (yields_at (sig_paired z.cps.toList) (fun _ _ _ => trivial) fun i H x H' y => ⟨y.1, ?_⟩)
      · rw [List.length_map, Array.length_toList]
        exact wk
      · obtain ⟨_, c, h1, h2⟩ := y
        rw [List.getElem?_map, h2, Array.getElem?_toList, h1] <;> rfl
    · cases hxs
/-- range(n), range(a, b) -/
def rngL (lo : Int) (n : Nat) : List T := (List.range n).map fun (i : Nat) => T.d (.int (lo + i))
def rng1 (xs : List T) : Option (List T) := match xs with
  | [.d (.int j)] => if -(2 ^ 62) ≤ j ∧ j < 2 ^ 62 then some (rngL 0 j.toNat) else none
  | _ => none
def rng2 (xs : List T) : Option (List T) := match xs with
  | [.d (.int i), .d (.int j)] => if -(2 ^ 62) ≤ i ∧ i < 2 ^ 62 ∧ -(2 ^ 62) ≤ j ∧ j < 2 ^ 62 then some (rngL i (j - i).toNat) else none
  | _ => none
def iRg (g : List T → Option (List T)) (f : AF) : AF := fun ρ => mbind (f ρ) fun xs μ => mof (g (xs.map (rd μ))) μ
theorem yields_rng {w : Wd} (lo : Int) (n : Nat) : Yields K w (rngL lo n) (fun _ => True) (YFn fun i => .int (lo + i)) := fun w1 e1 s1 => ⟨trivial, fun i x H' hi y => by
  obtain ⟨h1, h2⟩ := y
  unfold rngL at hi ⊢
  rw [List.length_map, List.length_range] at hi
  refine ⟨w1, .d (.int (lo + i)), h1.symm, rfl, Ext.refl _, s1, ?_, h2⟩
  rw [List.getElem?_map, List.getElem?_range hi] <;> rfl⟩
theorem rngL_len (lo : Int) (n : Nat) : (rngL lo n).length = n := by unfold rngL; rw [List.length_map, List.length_range]
theorem it_rng1 {tg a : Expr} {t : TA} {f : AF} {p pos : Pos} (hm : X.mg "range" = none) (h : PL K X E [a] t f) (hg : Gl X "range" := by rfl) (hs : starEach [a] X.env = [(false, eval a X.env)] := by rfl) : PIt K X E tg (.Call (.Name "range" p) [a] [] pos) (iRng1 t) (iRg rng1 f) := by
  refine ⟨pi_range1 hg hm h.pe hs, fun w σ ρ ev s r er R q1 q2 => ?_⟩
  show t σ w.H fun vs H1 => ∃ j : Int, vs = [.int j] ∧ -(2 ^ 62) ≤ j ∧ j < 2 ^ 62 ∧ R (Itr 0 j.toNat) H1
  refine At.use (h.ok w σ ρ ev) s er _ (fun xs w1 vs _ er2 e1 s2 hx => ?_) q2
  have er2 : mof (rng1 (xs.map (rd w1.μ))) w1.μ = some r := er2
  have hx := rds_ok s2 hx
  generalize xs.map (rd w1.μ) = ys at er2 hx
  unfold rng1 mof at er2
  split at er2
  · cases er2
  · rename_i zs hzs
    split at hzs
    · rename_i j
      split at hzs
      · rename_i hj
        cases hzs
        cases er2
        obtain ⟨v, rfl, hv⟩ := one_of hx
        refine ⟨j, by rw [show v = .int j from hv], hj.1, hj.2, q1 _ w1 rfl e1 s2 _ _ _ ?_ (yields_rng 0 j.toNat)⟩
        rw [rngL_len]
        exact walk_range
      · cases hzs
    · cases hzs
theorem it_rng2 {tg a b : Expr} {t : TA} {f : AF} {p pos : Pos} (hm : X.mg "range" = none) (h : PL K X E [a, b] t f) (hg : Gl X "range" := by rfl) (hs : starEach [a, b] X.env = [(false, eval a X.env), (false, eval b X.env)] := by rfl) (hs2 : starEach [b] X.env = [(false, eval b X.env)] := by rfl) :
    PIt K X E tg (.Call (.Name "range" p) [a, b] [] pos) (iRng2 t) (iRg rng2 f) := by
  refine ⟨pi_range2 hg hm h.pe hs hs2, fun w σ ρ ev s r er R q1 q2 => ?_⟩
  show t σ w.H fun vs H1 => ∃ i j : Int, vs = [.int i, .int j] ∧ (-(2 ^ 62) ≤ i ∧ i < 2 ^ 62 ∧ -(2 ^ 62) ≤ j ∧ j < 2 ^ 62) ∧ R (Itr i (j - i).toNat) H1
  refine At.use (h.ok w σ ρ ev) s er _ (fun xs w1 vs _ er2 e1 s2 hx => ?_) q2
  have er2 : mof (rng2 (xs.map (rd w1.μ))) w1.μ = some r := er2
  have hx := rds_ok s2 hx
  generalize xs.map (rd w1.μ) = ys at er2 hx
  unfold rng2 mof at er2
  split at er2
  · cases er2
  · rename_i zs hzs
    split at hzs
    · rename_i i j
      split at hzs
      · rename_i hj
        cases hzs
        cases er2
        obtain ⟨v, u, rfl, hv, hu⟩ := two_of hx
        refine ⟨i, j, by rw [show v = .int i from hv, show u = .int j from hu], hj, q1 _ w1 rfl e1 s2 _ _ _ ?_ (yields_rng i (j - i).toNat)⟩
        rw [rngL_len]
        exact walk_range
      · cases hzs
    · cases hzs

/-! ### targets -/
abbrev GF := T → Rho → M Rho
/-- only the places is change -/
def Keeps (is : List Nat) (σ σ' : L2.St) : Prop := σ'.length = σ.length ∧ ∀ j, j ∉ is → σ'[j]? = σ[j]?
theorem Keeps.refl (is : List Nat) (σ : L2.St) : Keeps is σ σ := ⟨rfl, fun _ _ => rfl⟩
theorem keeps_set (σ : L2.St) (i : Nat) (x : Option V) : Keeps [i] σ (σ.set i x) := ⟨List.length_set .., fun j h => by rw [List.getElem?_set_ne (fun e => h (by simp [e]))]⟩
theorem Keeps.trans {is js : List Nat} {σ σ1 σ2 : L2.St} (a : Keeps is σ σ1) (b : Keeps js σ1 σ2) : Keeps (is ++ js) σ σ2 := ⟨b.1.trans a.1, fun j h => (b.2 j fun q => h (List.mem_append_right _ q)).trans (a.2 j fun q => h (List.mem_append_left _ q))⟩
def GOk (K : PySem.W.Frag) (is : List Nat) (g : TG) (f : GF) : Prop := ∀ (w : Wd) (σ : L2.St) (ρ : Rho) (x : T) (v : V) (ρ' : Rho), EnvOk K w σ ρ → StOk K w → w.t K x v → f x ρ w.μ = some (.ok ρ' w.μ) → ∀ Q : L2.St → Hp → Prop, (∀ σ', EnvOk K w σ' ρ' → Keeps is σ σ' → Q σ' w.H) → g v σ w.H Q
/-- a target's function tells a new environment and leaves the store -/
def GNo (f : GF) : Prop := ∀ x ρ μ r, f x ρ μ = some r → ∃ ρ', r = .ok ρ' μ
structure PGt (K : PySem.W.Frag) (X : Cx) (is : List Nat) (tg : Expr) (g : TG) (f : GF) : Prop where
  pe : PG X tg g
  ok : GOk K is g f
  no : GNo f
@[simp] def gN (i : Nat) : GF := fun x ρ => mret (ρ.set i (some x))
theorem env_set {w : Wd} {σ : L2.St} {ρ : Rho} {x : T} {v : V} (h : EnvOk K w σ ρ) (i : Nat) (r : w.t K x v) : EnvOk K w (σ.set i (some v)) (ρ.set i (some x)) := by
  refine ⟨by rw [List.length_set, List.length_set]; exact h.1, fun j y hy => ?_⟩
  by_cases e : i = j
  · subst e
    have hl : i < ρ.length := by
      have := (List.getElem?_eq_some_iff.mp hy).1
      rwa [List.length_set] at this
    rw [List.getElem?_set_self hl] at hy
    cases hy
    exact ⟨v, by rw [List.getElem?_set_self (by rw [h.1]; exact hl)], r⟩
  · rw [List.getElem?_set_ne e] at hy ⊢
    exact h.2 j y hy
theorem gok_n (i : Nat) : GOk K [i] (gName i) (gN i) := fun w σ ρ x v ρ' ev _ hx e Q q => by
  cases e
  exact q _ (env_set ev i hx) (keeps_set σ i _)
theorem gno_n (i : Nat) : GNo (gN i) := fun x ρ μ r e => by cases e; exact ⟨_, rfl⟩
theorem tg_n (i : Nat) {x : Str} {pos : Pos} (hN : X.N.Nodup) (hi : X.N[i]? = some x := by rfl) (hx : Loc X.env.scope x := by first | exact .inl rfl | exact .inr rfl) (hf : X.fn x = true ∨ X.env.scope.names.lookup x = some .local := by first | exact .inl rfl | exact .inr rfl) : PGt K X [i] (.Name x pos) (gName i) (gN i) :=
  ⟨pg_name hN hi hx hf, gok_n i, gno_n i⟩
/-- a tuple's parts, to names -/
def gNs : List Nat → List D → Rho → Option Rho
  | [], [], ρ => some ρ
  | i :: is, x :: xs, ρ => gNs is xs (ρ.set i (some (.d x)))
  | _, _, _ => none
def gTp (is : List Nat) : GF := fun x ρ μ => mof ((tupOf (rd μ x)).bind fun xs => gNs is xs ρ) μ
structure PGn (K : PySem.W.Frag) (X : Cx) (ts : List Expr) (t : TGs) (is : List Nat) : Prop where
  pe : PGs X ts t
  ok : ∀ (w : Wd) (σ : L2.St) (ρ : Rho) (xs : List D) (vs : List V) (ρ' : Rho), EnvOk K w σ ρ → Paired (w.t K) (xs.map T.d) vs → gNs is xs ρ = some ρ' → ∀ Q : L2.St → Hp → Prop, (∀ σ', EnvOk K w σ' ρ' → Keeps is σ σ' → Q σ' w.H) → t vs σ w.H Q
theorem gn_nil : PGn K X [] gNil [] := ⟨pgs_nil, fun w σ ρ xs vs ρ' ev hx e Q q => by
  cases xs with
  | nil => cases hx; cases e; exact ⟨rfl, q _ ev (Keeps.refl _ _)⟩
  | cons => cases e⟩
theorem gn_cons (i : Nat) {x : Str} {pos : Pos} {ts : List Expr} {t : TGs} {is : List Nat} (hr : PGn K X ts t is) (hN : X.N.Nodup) (hi : X.N[i]? = some x := by rfl) (hx : Loc X.env.scope x := by first | exact .inl rfl | exact .inr rfl) (hf : X.fn x = true ∨ X.env.scope.names.lookup x = some .local := by first | exact .inl rfl | exact .inr rfl) :
    PGn K X (.Name x pos :: ts) (gCons (gName i) t) (i :: is) := ⟨pgs_cons (pg_name hN hi hx hf) hr.pe, fun w σ ρ xs vs ρ' ev hxs e Q q => by
  cases xs with
  | nil => cases e
  | cons y ys =>
    cases hxs with
    | cons h1 h2 => exact ⟨_, _, rfl, hr.ok w _ _ ys _ ρ' (env_set ev i h1) h2 e Q fun σ' h k => q σ' h ((keeps_set σ i _).trans k)⟩⟩
theorem gNs_len : ∀ {is : List Nat} {xs : List D} {ρ ρ' : Rho}, gNs is xs ρ = some ρ' → xs.length = is.length
  | [], [], _, _, _ => rfl
  | _ :: is, _ :: xs, _, _, e => by rw [List.length_cons, List.length_cons, gNs_len (is := is) (xs := xs) e]
  | [], _ :: _, _, _, e => by cases e
  | _ :: _, [], _, _, e => by cases e
theorem tg_t {es : List Expr} {k : Nat} {t : TGs} {is : List Nat} {pos : Pos} (h : PGn K X es t is) (hc : X.calm = true := by rfl) (hK : X.K = K := by rfl) (hn : (assignEach es X.env).length = is.length := by rfl) (hst : (assignEach es X.env).findIdx? (·.1) = none := by rfl) : PGt K X is (.Tuple es k pos) (gTup K is.length t) (gTp is) := by
  subst hK
  refine ⟨pg_tup hc h.pe hn hst, fun w σ ρ x v ρ' ev s hx e Q q => ?_, fun x ρ μ r e => ?_⟩
  · have e : mof ((tupOf (rd w.μ x)).bind fun xs => gNs is xs ρ) w.μ = some (.ok ρ' w.μ) := e
    unfold mof at e
    cases hb : (tupOf (rd w.μ x)).bind fun xs => gNs is xs ρ with
    | none => rw [hb] at e; cases e
    | some ρ2 =>
      rw [hb] at e
      cases e
      obtain ⟨xs, h1, h2⟩ := Option.bind_eq_some_iff.mp hb
      obtain ⟨a, vs, h3, h4, h5⟩ := tup_ok s (rd_ok s hx) h1
      exact ⟨a, vs, h3, .of h4, by rw [← pd_len h5, List.length_map, gNs_len h2], h.ok w σ ρ xs vs ρ' ev h5 h2 Q q⟩
  · have e : mof ((tupOf (rd μ x)).bind fun xs => gNs is xs ρ) μ = some r := e
    unfold mof at e
    split at e
    · cases e
    · cases e; exact ⟨_, rfl⟩
end
end Fm
set_option Elab.async false
set_option linter.all false
set_option maxRecDepth 100000
namespace Fm
open PySem L2 PySem.Spec PyProof.Rows
section
variable {X : Cx} {E : XK} {K : PySem.W.Frag}

/-! ### a cell is written -/
theorem wr_ok {w : Wd} (s : StOk K w) {n : Nat} {a : Addr} {c c' : Cell} {o : HO} (hA : w.A[n]? = some a) (hc : w.μ[n]? = some c) (hl : c.live = true) (hl' : c'.live = true) (hc' : CellOk K { w with H := upd w.H a o } a c') :
    StOk K { w with H := upd w.H a o, μ := w.μ.set n c' } ∧ Ext w { w with H := upd w.H a o, μ := w.μ.set n c' } := by
  obtain ⟨hF, oh, hH⟩ := (s.cell n a c hA hc).nn hl
  have hlt : n < w.μ.length := (List.getElem?_eq_some_iff.mp hc).1
  have inj : ∀ m, w.A[m]? = some a → m = n := fun m hm => by
    obtain ⟨h1, e1⟩ := List.getElem?_eq_some_iff.mp hm
    obtain ⟨h2, e2⟩ := List.getElem?_eq_some_iff.mp hA
    exact (List.getElem_inj s.nd).mp (e1.trans e2.symm)
  refine ⟨⟨fun b o' e => ?_, ?_, s.nd, fun b hb => ?_, fun m b c2 h1 h2 => ?_⟩, ⟨Same.refl _, List.prefix_refl _, fun b h => ?_, fun b o' h l => ?_, fun b h _ _ => h, fun b l h => ?_, fun b h _ => h⟩⟩
  · show upd w.H a o b = some o'
    rw [upd_ne (show b ≠ a from fun z => by rw [z, hF] at e; cases e)]
    exact s.sub b o' e
  · show w.A.length = (w.μ.set n c').length
    rw [List.length_set]
    exact s.len
  · show upd w.H a o b ≠ none
    by_cases e : b = a
    · rw [e, upd_same]; simp
    · rw [upd_ne e]; exact s.tr b hb
  · have h2 : (w.μ.set n c')[m]? = some c2 := h2
    by_cases e : n = m
    · subst e
      rw [List.getElem?_set_self hlt] at h2
      cases h2
      have h1 : w.A[n]? = some b := h1
      rw [hA] at h1
      cases h1
      exact hc'.rep (w' := { w with H := upd w.H a o, μ := w.μ.set n c' }) (Same.refl _) (List.prefix_refl _) (fun l => hF) fun _ => rfl
    · rw [List.getElem?_set_ne e] at h2
      refine (s.cell m b c2 h1 h2).rep (Same.refl _) (List.prefix_refl _) (fun l => ((s.cell m b c2 h1 h2).nn l).1) fun l => ?_
      show upd w.H a o b = w.H b
      exact upd_ne fun z => e (inj m (by rw [← z]; exact h1)).symm
  · have h : upd w.H a o b = none := h
    by_cases e : b = a
    · rw [e, upd_same] at h; cases h
    · rw [upd_ne e] at h; exact h
  · show upd w.H a o b = some o'
    rw [upd_ne (show b ≠ a from fun z => l ⟨n, c, by rw [z]; exact hA, hc, hl⟩)]
    exact h
  · obtain ⟨m, c2, h1, h2, h3⟩ := l
    have h2 : (w.μ.set n c')[m]? = some c2 := h2
    by_cases e : n = m
    · subst e
      exact ⟨n, c, h1, hc, hl⟩
    · rw [List.getElem?_set_ne e] at h2
      exact ⟨m, c2, h1, h2, h3⟩
theorem CellOk.lst_upd {w : Wd} {a : Addr} {xs : List T} {vs : List V} (hF : w.F a = none) (h : Paired (w.t K) xs vs) : CellOk K { w with H := upd w.H a (.lst vs) } a (.lst xs) := ⟨hF, vs, upd_same, h⟩
theorem CellOk.dct_upd {w : Wd} {a : Addr} {xs : List (Key × T)} {vs : List (Key × V)} (hF : w.F a = none) (h : Paired (fun p q => p.1 = q.1 ∧ w.t K p.2 q.2) xs vs) : CellOk K { w with H := upd w.H a (.dK vs) } a (.dct xs) := ⟨hF, vs, upd_same, h⟩

/-! ### methods of what is built in -/
abbrev RMt := V → List V → Hp → VK → Prop
def MtA (K : PySem.W.Frag) (r : RMt) (g : T → List T → M T) : Prop := ∀ (E : XK) (w : Wd) (x : T) (xs : List T) (v : V) (vs : List V), w.t K x v → Paired (w.t K) xs vs → At K E w (fun Q => r v vs w.H Q) (g x xs) (RV K)
def MtY (K : PySem.W.Frag) (ty : String) (y : Mu → T → Bool) : Prop := ∀ (w : Wd) (x : T) (v : V), StOk K w → w.t K x v → y w.μ x = true → tyV K ty v w.H
structure MI (K : PySem.W.Frag) (X : Cx) (ty : String) (name : Str) (id : String) (r : RMt) (y : Mu → T → Bool) (g : T → List T → M T) : Prop where
  pa : PlainAttrs ty
  slot : Slot ty name id
  hty : typeOf (.builtin id) = pure (.type "method_descriptor")
  mt : MtR X id r
  ok : MtA K r g
  y : MtY K ty y
def eBM (y : Mu → T → Bool) (g : T → List T → M T) (fo : EF) (fa : AF) : EF := fun ρ => mbind (fo ρ) fun x μ => if y μ x = true then mbind (fa ρ) (fun xs => g x xs) μ else none
theorem eok_BM {ty : String} {r : RMt} {y : Mu → T → Bool} {g : T → List T → M T} {to : TE} {t : TA} {fo : EF} {fa : AF} (hg : MtA K r g) (hy : MtY K ty y) (ho : EOk K E to fo) (ha : LOk K E t fa) : EOk K E (tBM K ty r to t) (eBM y g fo fa) := fun w σ ρ ev s rr er Q q1 q2 => by
  show to σ w.H fun x H1 => tyV K ty x H1 ∧ t σ H1 fun xs H2 => r x xs H2 Q
  refine At.use (ho w σ ρ ev) s er _ (fun x w1 v _ er1 e1 s1 hx => ?_) q2
  have er1 : (if y w1.μ x = true then mbind (fa ρ) (fun xs => g x xs) w1.μ else none) = some rr := er1
  split at er1
  · rename_i hyy
    refine ⟨hy w1 x v s1 hx hyy, At.use (ha w1 σ ρ (ev.ext e1)) s1 er1 _ (fun xs w2 vs _ er2 e2 s2 hxs => ?_) fun a w' cls d z e' => q2 a w' cls d z (e1.trans e')⟩
    exact hg E w2 x xs v vs (e2.t hx) hxs s2 rr er2 Q (fun a w' b z e' => q1 a w' b z ((e1.trans e2).trans e')) fun a w' cls d z e' => q2 a w' cls d z ((e1.trans e2).trans e')
  · cases er1
theorem eok_BM0 {ty : String} {r : RMt} {y : Mu → T → Bool} {g : T → List T → M T} {to : TE} {fo : EF} (hg : MtA K r g) (hy : MtY K ty y) (ho : EOk K E to fo) : EOk K E (tBM0 K ty r to) (eBM y g fo aNil) := fun w σ ρ ev s rr er Q q1 q2 => by
  show to σ w.H fun x H1 => tyV K ty x H1 ∧ r x [] H1 Q
  refine At.use (ho w σ ρ ev) s er _ (fun x w1 v _ er1 e1 s1 hx => ?_) q2
  have er1 : (if y w1.μ x = true then g x [] w1.μ else none) = some rr := er1
  split at er1
  · rename_i hyy
    refine ⟨hy w1 x v s1 hx hyy, ?_⟩
    exact hg E w1 x [] v [] hx .nil s1 rr er1 Q (fun a w' b z e' => q1 a w' b z (e1.trans e')) fun a w' cls d z e' => q2 a w' cls d z (e1.trans e')
  · cases er1
section
variable {o e : Expr} {es : List Expr} {to : TE} {t : TA} {fo : EF} {fa : AF} {name : Str} {apos cpos : Pos} {ty id : String} {r : RMt} {y : Mu → T → Bool} {g : T → List T → M T}
theorem pd_BM (m : MI K X ty name id r y g) (ho : PD K X E o to fo) (ha : PL K X E (e :: es) t fa) (hK : X.K = K := by rfl) (hbase : attributeBase o name X.env (eval o X.env) = eval o X.env := by rfl)
    (hfew : ((backTo cpos (starEach (e :: es) X.env)).all (fun x => !x.1) && (backToKw cpos (keywordEach [] X.env)).all (fun x => x.1.isSome)
      && decide ((e :: es).length + ([] : List Keyword).length + (if ([] : List Keyword).isEmpty then 0 else 1) < 30)) = true := by rfl)
    (hline : (apos.endLine == cpos.line) = true := by rfl) (hs : starEach (e :: es) X.env = (false, eval e X.env) :: starEach es X.env := by rfl) (hplain : (backTo cpos (starEach es X.env)).any (·.1) = false := by rfl) :
    PD K X E (.Call (.Attribute o name apos) (e :: es) [] cpos) (tBM K ty r to t) (eBM y g fo fa) := by
  subst hK
  exact ⟨pe_bm m.pa m.slot m.hty m.mt ho.pe ha.pe hbase hfew hline hs hplain, eok_BM m.ok m.y ho.ok ha.ok⟩
theorem pd_BM0 (m : MI K X ty name id r y g) (ho : PD K X E o to fo) (hK : X.K = K := by rfl) (hbase : attributeBase o name X.env (eval o X.env) = eval o X.env := by rfl) (hline : (apos.endLine == cpos.line) = true := by rfl) :
    PD K X E (.Call (.Attribute o name apos) [] [] cpos) (tBM0 K ty r to) (eBM y g fo aNil) := by
  subst hK
  exact ⟨pe_bm0 m.pa m.slot m.hty m.mt ho.pe hbase hline, eok_BM0 m.ok m.y ho.ok⟩
end
/-- a list that is a cell -/
def lstC (μ : Mu) : T → Option (Nat × List T)
  | .p n => match μ[n]? with
    | some (.lst xs) => some (n, xs)
    | _ => none
  | _ => none
def dctC (μ : Mu) : T → Option (Nat × List (Key × T))
  | .p n => match μ[n]? with
    | some (.dct xs) => some (n, xs)
    | _ => none
  | _ => none
theorem lstC_ok {w : Wd} (s : StOk K w) {x : T} {v : V} {n : Nat} {xs : List T} (h : w.t K x v) (e : lstC w.μ x = some (n, xs)) : ∃ a vs, v = .ref a ∧ w.A[n]? = some a ∧ w.μ[n]? = some (.lst xs) ∧ w.F a = none ∧ w.H a = some (.lst vs) ∧ Paired (w.t K) xs vs := by
  unfold lstC at e
  split at e
  · rename_i n'
    split at e
    · rename_i ys hy
      cases e
      obtain ⟨a, h1, h2⟩ := h
      obtain ⟨hF, vs, q1, q2⟩ := s.cell _ a _ h1 hy
      exact ⟨a, vs, h2, h1, hy, hF, q1, q2⟩
    · cases e
  · cases e
theorem dctC_ok {w : Wd} (s : StOk K w) {x : T} {v : V} {n : Nat} {xs : List (Key × T)} (h : w.t K x v) (e : dctC w.μ x = some (n, xs)) : ∃ a vs, v = .ref a ∧ w.A[n]? = some a ∧ w.μ[n]? = some (.dct xs) ∧ w.F a = none ∧ w.H a = some (.dK vs) ∧ Paired (fun p q => p.1 = q.1 ∧ w.t K p.2 q.2) xs vs := by
  unfold dctC at e
  split at e
  · rename_i n'
    split at e
    · rename_i ys hy
      cases e
      obtain ⟨a, h1, h2⟩ := h
      obtain ⟨hF, vs, q1, q2⟩ := s.cell _ a _ h1 hy
      exact ⟨a, vs, h2, h1, hy, hF, q1, q2⟩
    · cases e
  · cases e
def yLst (μ : Mu) (x : T) : Bool := (lstC μ x).isSome
theorem mty_lst : MtY K "list" yLst := fun w x v s hx e => by
  unfold yLst at e
  obtain ⟨⟨n, xs⟩, h⟩ := Option.isSome_iff_exists.mp e
  obtain ⟨a, vs, h1, _, _, _, h2, _⟩ := lstC_ok s hx h
  rw [h1]
  exact .inl ⟨rfl, vs, .of h2⟩
def gApp (x : T) (xs : List T) (μ : Mu) : Option (Rs T) := match xs with
  | [y] => match lstC μ x with
    | some (n, ys) => if ys.length < SL then some (.ok (.d .non) (μ.set n (.lst (ys ++ [y])))) else none
    | none => none
  | _ => none
theorem mta_app : MtA K rAppend gApp := fun E w x xs v vs hx hxs s r e Q q1 _ => by
  unfold gApp at e
  split at e
  · rename_i y
    split at e
    · rename_i n ys hl
      split at e
      · rename_i hlt
        cases e
        obtain ⟨u, rfl, hu⟩ := one_of hxs
        obtain ⟨a, zs, h1, h2, h3, h4, h5, h6⟩ := lstC_ok s hx hl
        refine ⟨a, zs, u, h1, rfl, h5, by rw [← pd_len h6, sizeLine_eq]; exact hlt, ?_⟩
        obtain ⟨k1, k2⟩ := wr_ok s h2 h3 rfl (c' := .lst (ys ++ [y])) rfl (CellOk.lst_upd h4 (pd_app h6 (.cons hu .nil)))
        exact q1 (.d .non) _ .non rfl k2 k1 rfl
      · cases e
    · cases e
  · cases e
theorem mi_append : MI K X "list" "append" "list.append" rAppend yLst gApp := ⟨PySem.F.plainAttrs_list, PySem.F.slot_list_append, PySem.F.type_list_append, mt_append, mta_app, mty_lst⟩
def gPop (x : T) (xs : List T) (μ : Mu) : Option (Rs T) := match xs with
  | [] => match lstC μ x with
    | some (n, ys) => match ys[ys.length - 1]? with
      | some y => some (.ok (rd μ y) (μ.set n (.lst ys.dropLast)))
      | none => none
    | none => none
  | _ => none
theorem pd_dropLast {α β : Type} {R : α → β → Prop} {l : List α} {m : List β} (h : Paired R l m) : Paired R l.dropLast m.dropLast := by
  rw [List.dropLast_eq_take, List.dropLast_eq_take, pd_len h]
  exact pd_take _ h
theorem mta_pop : MtA K rPop gPop := fun E w x xs v vs hx hxs s r e Q q1 _ => by
  unfold gPop at e
  split at e
  · split at e
    · rename_i n ys hl
      split at e
      · rename_i y hy
        cases e
        cases hxs
        obtain ⟨a, zs, h1, h2, h3, h4, h5, h6⟩ := lstC_ok s hx hl
        obtain ⟨u, h7, h8⟩ := pd_get h6 hy
        refine ⟨a, zs, u, h1, rfl, h5, by rw [← pd_len h6]; exact h7, ?_⟩
        obtain ⟨k1, k2⟩ := wr_ok s h2 h3 rfl (c' := .lst ys.dropLast) rfl (CellOk.lst_upd h4 (pd_dropLast h6))
        exact q1 _ _ u rfl k2 k1 (rd_ok s h8)
      · cases e
    · cases e
  · cases e
theorem mi_pop : MI K X "list" "pop" "list.pop" rPop yLst gPop := ⟨PySem.F.plainAttrs_list, PySem.F.slot_list_pop, PySem.F.type_list_pop, mt_pop, mta_pop, mty_lst⟩
/-- a list that is tracked -/
def lstTr (μ : Mu) (x : T) : Option (List T) := match x with
  | .d (.kl _) => none
  | x => lstOf μ x
theorem lstTr_ok {w : Wd} (s : StOk K w) {x : T} {v : V} {xs : List T} (h : w.t K x v) (e : lstTr w.μ x = some xs) : ∃ a vs, v = .ref a ∧ w.H a = some (.lst vs) ∧ Paired (w.t K) xs vs := by
  cases x with
  | d d =>
    cases d with
    | lst ds =>
      cases e
      obtain ⟨a, vs, h1, h2, h3⟩ := h
      exact ⟨a, vs, h1, s.sub _ _ h2, d_paired h3⟩
    | _ => cases e
  | p n =>
    obtain ⟨a, h1, h2⟩ := h
    have e : (match w.μ[n]? with | some (.lst xs) => some xs | _ => none) = some xs := e
    split at e
    · rename_i ys hy
      cases e
      obtain ⟨_, vs, q1, q2⟩ := s.cell n a _ h1 hy
      exact ⟨a, vs, h2, q1, q2⟩
    · cases e
def gExt (x : T) (xs : List T) (μ : Mu) : Option (Rs T) := match xs with
  | [y] => match lstC μ x, lstTr μ (rd μ y) with
    | some (n, ys), some zs => if ys.length + zs.length ≤ SL then some (.ok (.d .non) (μ.set n (.lst (ys ++ zs)))) else none
    | _, _ => none
  | _ => none
theorem mta_ext : MtA K rExtend gExt := fun E w x xs v vs hx hxs s r e Q q1 _ => by
  unfold gExt at e
  split at e
  · rename_i y
    split at e
    · rename_i n ys zs hl hz
      split at e
      · rename_i hlt
        cases e
        obtain ⟨u, rfl, hu⟩ := one_of hxs
        obtain ⟨a, us, h1, h2, h3, h4, h5, h6⟩ := lstC_ok s hx hl
        obtain ⟨b, ws, g1, g2, g3⟩ := lstTr_ok s (rd_ok s hu) hz
        refine ⟨a, b, us, ws, h1, by rw [g1], h5, g2, by rw [← pd_len h6, ← pd_len g3]; exact le_SL hlt, ?_⟩
        obtain ⟨k1, k2⟩ := wr_ok s h2 h3 rfl (c' := .lst (ys ++ zs)) rfl (CellOk.lst_upd h4 (pd_app h6 g3))
        exact q1 (.d .non) _ .non rfl k2 k1 rfl
      · cases e
    · cases e
  · cases e
theorem mi_extend : MI K X "list" "extend" "list.extend" rExtend yLst gExt := ⟨PySem.F.plainAttrs_list, PySem.F.slot_list_extend, PySem.F.type_list_extend, mt_extend, mta_ext, mty_lst⟩
/-- sep.join(xs) of texts -/
def yStr (_ : Mu) (x : T) : Bool := match x with
  | .d (.str _) => true
  | _ => false
theorem mty_str : MtY K "str" yStr := fun w x v s hx e => by
  unfold yStr at e
  split at e
  · rename_i z
    rw [show v = .str z from hx]
    rfl
  · cases e
def gJoin (x : T) (xs : List T) (μ : Mu) : Option (Rs T) := match x, xs with
  | .d (.str a), [y] => match (lstOf μ (rd μ y)).bind strsOf with
    | some ys => if (ys.map (·.length)).sum + ys.length * a.length ≤ 16777216 then some (.ok (.d (.str (Txt.join a ys))) μ) else none
    | none => none
  | _, _ => none
def rJoin (K : PySem.W.Frag) : RMt := fun x xs H Q => ∃ a p, ∃ ys : List Str, x = .str a ∧ xs = [.ref p] ∧ (SqL K H p (ys.map V.str) ∨ SqT K H p (ys.map V.str)) ∧
    (ys.map (·.length)).sum + ys.length * a.length ≤ 16777216 ∧ Q (.str (Txt.join a ys)) H
theorem mta_join : MtA K (rJoin K) gJoin := fun E w x xs v vs hx hxs s r e Q q1 _ => by
  unfold gJoin at e
  split at e
  · rename_i a y
    split at e
    · rename_i ys hy
      split at e
      · rename_i hz
        cases e
        obtain ⟨u, rfl, hu⟩ := one_of hxs
        obtain ⟨zs, h1, h2⟩ := Option.bind_eq_some_iff.mp hy
        obtain ⟨p, us, h3, h4, h5⟩ := lst_ok s (rd_ok s hu) h1
        refine ⟨a, p, ys, hx, by rw [h3], .inl (by rw [← strs_ok h5 h2]; exact h4), hz, ?_⟩
        exact q1 _ w (.str (Txt.join a ys)) rfl (Ext.refl w) s rfl
      · cases e
    · cases e
  · cases e
theorem mi_join' (hK : X.K = K := by rfl) : MI K X "str" "join" "str.join" (rJoin K) yStr gJoin := by
  subst hK
  exact ⟨F.plainAttrs_str, F.slot_str_join, F.type_str_join, mt_join, mta_join, mty_str⟩

/-! ### comprehensions -/
/-- no error leaves a comprehension's block -/
def noex {α : Type} (f : M α) : M α := fun μ => match f μ with
  | some (.ok a μ') => some (.ok a μ')
  | _ => none
theorem noex_some {α : Type} {f : M α} {μ : Mu} {r : Rs α} (h : noex f μ = some r) : ∃ a μ', r = .ok a μ' ∧ f μ = some (.ok a μ') := by
  unfold noex at h
  split at h
  · rename_i a μ' hf
    cases h
    exact ⟨a, μ', rfl, hf⟩
  · cases h
def wipeR (ρ : Rho) : List Nat → Rho
  | [] => ρ
  | v :: vs => (wipeR ρ vs).set v none
theorem wipeR_some {ρ : Rho} {i : Nat} {x : T} : ∀ {vs : List Nat}, (wipeR ρ vs)[i]? = some (some x) → ρ[i]? = some (some x) ∧ i ∉ vs
  | [], h => ⟨h, by simp⟩
  | v :: vs, h => by
    unfold wipeR at h
    by_cases hi : v = i
    · subst hi
      by_cases hv : v < (wipeR ρ vs).length
      · rw [List.getElem?_set_self hv] at h; cases h
      · rw [List.getElem?_eq_none (by simpa using hv)] at h; cases h
    · rw [List.getElem?_set_ne hi] at h
      obtain ⟨h1, h2⟩ := wipeR_some h
      exact ⟨h1, by simp only [List.mem_cons, not_or]; exact ⟨fun e => hi e.symm, h2⟩⟩
theorem wipeR_length (ρ : Rho) : ∀ vs : List Nat, (wipeR ρ vs).length = ρ.length
  | [] => rfl
  | v :: vs => by unfold wipeR; rw [List.length_set, wipeR_length ρ vs]
theorem env_wipe {w : Wd} {σ : L2.St} {ρ : Rho} (h : EnvOk K w σ ρ) (vs : List Nat) : EnvOk K w (wipe σ vs) (wipeR ρ vs) := ⟨by rw [wipe_length, wipeR_length]; exact h.1, fun i x hx => by
  obtain ⟨h1, h2⟩ := wipeR_some hx
  obtain ⟨v, h3, h4⟩ := h.2 i x h1
  exact ⟨v, by rw [wipe_out h2]; exact h3, h4⟩⟩
theorem wipe_in {σ : L2.St} {i : Nat} : ∀ {vs : List Nat}, i ∈ vs → i < σ.length → (wipe σ vs)[i]? = some none
  | v :: vs, h, hl => by
    unfold wipe
    by_cases e : v = i
    · subst e
      rw [List.getElem?_set_self (by rw [wipe_length]; exact hl)]
    · rw [List.getElem?_set_ne e]
      exact wipe_in ((List.mem_cons.mp h).resolve_left fun z => e z.symm) hl
theorem wipe_keeps {σ σ2 : L2.St} {is vs : List Nat} (h : Keeps is (wipe σ vs) σ2) (hs : ∀ i ∈ is, i ∈ vs) : wipe σ2 vs = wipe σ vs := by
  have hl : σ2.length = σ.length := by rw [h.1, wipe_length]
  refine List.ext_getElem? fun j => ?_
  by_cases hj : j ∈ vs
  · by_cases hlt : j < σ.length
    · rw [wipe_in hj (by omega), wipe_in hj hlt]
    · rw [List.getElem?_eq_none (by rw [wipe_length]; omega), List.getElem?_eq_none (by rw [wipe_length]; omega)]
  · rw [wipe_out hj, h.2 j fun q => hj (hs j q)]
def compL (g : GF) (tt : TF) (el : EF) (ρ : Rho) : List T → List T → M Cell
  | [], acc => mret (.lst acc)
  | x :: r, acc => mbind (noex (g x ρ)) fun ρ1 => mbind (noex (tt ρ1)) fun b => if b = true then mbind (noex (el ρ1)) fun y => compL g tt el ρ r (acc ++ [y]) else compL g tt el ρ r acc
def cComp (vs : List Nat) (it : AF) (g : GF) (tt : TF) (el : EF) : CF := fun ρ => mbind (it ρ) fun xs μ => if xs.length ≤ SL then compL g tt el (wipeR ρ vs) xs [] μ else none
/-- the turns of a comprehension -/
theorem at_noex {α β : Type} {w : Wd} {t : (β → Hp → Prop) → Prop} {f : M α} {R : RT α β} (h : At K E0 w t f R) : At K E w t (noex f) R := fun s r e Q q1 _ => by
  obtain ⟨a, μ', rfl, hf⟩ := noex_some e
  exact h s _ hf Q q1 fun _ _ _ _ z => by cases z
def bTrue : TF := fun _ => mret true
theorem bok_true : BOk K E tYes bTrue := fun w σ ρ _ => At.ret (R := RB) rfl
/-- an object outside of the cells and of what is frozen is written -/
theorem out_ok {w : Wd} (s : StOk K w) {p : Addr} {o : HO} (hA : p ∉ w.A) (hF : w.F p = none) : StOk K { w with H := upd w.H p o } := by
  refine ⟨fun b o' e => ?_, s.len, s.nd, fun b hb => ?_, fun n b c h1 h2 => ?_⟩
  · show upd w.H p o b = some o'
    rw [upd_ne (show b ≠ p from fun z => by rw [z, hF] at e; cases e)]
    exact s.sub b o' e
  · show upd w.H p o b ≠ none
    rw [upd_ne (show b ≠ p from fun z => hA (by rw [← z]; exact hb))]
    exact s.tr b hb
  · refine (s.cell n b c h1 h2).rep (Same.refl _) (List.prefix_refl _) (fun l => ((s.cell n b c h1 h2).nn l).1) fun l => ?_
    show upd w.H p o b = w.H b
    exact upd_ne fun z => hA (by rw [← z]; exact List.mem_of_getElem? h1)
theorem out_ext {w0 w : Wd} (e : Ext w0 w) {p : Addr} {o : HO} (hp : w0.H p = none) : Ext w0 { w with H := upd w.H p o } where
  sub := e.sub
  pre := e.pre
  dom := fun b h => by
    have h : upd w.H p o b = none := h
    by_cases q : b = p
    · rw [q]; exact hp
    · rw [upd_ne q] at h; exact e.dom b h
  keep := fun b o' h l => by
    show upd w.H p o b = some o'
    rw [upd_ne (ne_of_none h hp)]
    exact e.keep b o' h l
  capt := e.capt
  lv := e.lv
  new := e.new
/-- the turns of a comprehension, from the walk's beginning on -/
theorem comp_core {vs is : List Nat} {g : TG} {tt : TT} {te : TE} {gf : GF} {tf : TF} {el : EF} (hg : GOk K is g gf) (hgn : GNo gf) (ht : BOk K E0 tt tf) (he : EOk K E0 te el) (hs : ∀ i ∈ is, i ∈ vs)
    {w' : Wd} {σ : L2.St} {ρ : Rho} {r : Rs Cell} {xs : List T} {J : It} {G : Hp → Prop} {Y : Nat → Hp → V → Hp → Prop} (ev : EnvOk K w' σ ρ) (s1 : StOk K w') (wk : Walk J xs.length G Y) (yl : Yields K w' xs G Y) (hxl : xs.length ≤ SL) (er : compL gf tf el (wipeR ρ vs) xs [] w'.μ = some r)
    {D : Addr} (hD : w'.H D = none) {Qd : Hp → Prop} (q1 : ∀ acc us w1, r = .ok (.lst acc) w1.μ → Ext w' w1 → StOk K w1 → w1.H D = some (.lst us) → Paired (w1.t K) acc us → D ∉ w1.A → w1.F D = none → Qd w1.H)
    (q2 : ∀ x w1 cls d, r = .ex x w1.μ → Ext w' w1 → StOk K w1 → ExnOk K w1 x cls d → E cls d w1.H) :
    ∃ W : Nat → Nat → Hp → Prop, (∃ m, W 0 m (upd w'.H D (.lst []))) ∧ ∀ i m H, W i m H →
      (J.stop i H ∧ Qd H) ∨ (J.go i H ∧ ∃ Nx : Hp → Prop, (∀ H', Nx H' → ∃ m', m' < m ∧ W (i + 1) m' H') ∧ ∀ x H', J.yld i H x H' → g x (wipe σ vs) H' fun σ2 H2 => wipe σ2 vs = wipe σ vs ∧ tt σ2 H2 fun b H3 =>
        if b = true then te σ2 H3 fun y H4 => ∃ acc, H4 D = some (.lst acc) ∧ acc.length < sizeLine ∧ Nx (upd H4 D (.lst (acc ++ [y]))) else Nx H3) := by
  obtain ⟨n1, n2, n3, n4⟩ := new_ok s1 (o := .lst []) hD
  refine lc_it wk (fun i H => ∃ (w1 : Wd) (acc : List T) (us : List V), w1.H = H ∧ Ext w' w1 ∧ StOk K w1 ∧ w1.H D = some (.lst us) ∧ Paired (w1.t K) acc us ∧ acc.length ≤ i ∧ compL gf tf el (wipeR ρ vs) (xs.drop i) acc w1.μ = some r ∧ D ∉ w1.A ∧ w1.F D = none) ?_ ?_ ?_ ?_
  · exact ⟨_, [], [], rfl, n2, n1, upd_same, .nil, Nat.le_refl _, er, n3, n4⟩
  · rintro i H _ ⟨w1, acc, us, rfl, h1, h2, _⟩
    exact (yl w1 h1 h2).1
  · rintro i x H H' hlt ⟨w1, acc, us, rfl, h1, h2, h3, h4, h5, h6, h7, h8⟩ y
    obtain ⟨w2, t, rfl, hμ, e2, s2, hx, hr⟩ := (yl w1 h1 h2).2 i x H' hlt y
    have hdrop : xs.drop i = t :: xs.drop (i + 1) := by
      obtain ⟨hl, e⟩ := List.getElem?_eq_some_iff.mp hx
      rw [List.drop_eq_getElem_cons hl, e]
    rw [hdrop, ← hμ] at h6
    have D2 : w2.H D = some (.lst us) := e2.keep D _ h3 fun ⟨n, c, k, _⟩ => h7 (List.mem_of_getElem? k)
    have A2 : D ∉ w2.A := fun k => h7 (e2.new D k (by rw [h3]; simp))
    have F2 : w2.F D = none := e2.capt D h8 (by rw [h3]; simp) fun ⟨n, c, k, _⟩ => h7 (List.mem_of_getElem? k)
    have h6 : mbind (noex (gf t (wipeR ρ vs))) (fun ρ1 => mbind (noex (tf ρ1)) fun b => if b = true then mbind (noex (el ρ1)) fun y => compL gf tf el (wipeR ρ vs) (xs.drop (i + 1)) (acc ++ [y]) else compL gf tf el (wipeR ρ vs) (xs.drop (i + 1)) acc) w2.μ = some r := h6
    unfold mbind at h6
    cases hgf : noex (gf t (wipeR ρ vs)) w2.μ with
    | none => rw [hgf] at h6; cases h6
    | some rg =>
      obtain ⟨ρ1, μ', rfl, hgf2⟩ := noex_some hgf
      obtain ⟨ρ2, hρ⟩ := hgn _ _ _ _ hgf2
      cases hρ
      rw [hgf] at h6
      have ext2 : Ext w' w2 := h1.trans e2
      refine hg w2 (wipe σ vs) (wipeR ρ vs) t x ρ1 (env_wipe (ev.ext ext2) vs) s2 hr hgf2 _ fun σ2 hσ2 hk => ⟨wipe_keeps hk hs, ?_⟩
      refine At.use (at_noex (ht w2 σ2 ρ1 hσ2)) s2 h6 _ (fun b w3 b' _ h9 e3 s3 hb => ?_) fun a w' cls d z e' => q2 a w' cls d z (ext2.trans e')
      cases hb
      have D3 : w3.H D = some (.lst us) := e3.keep D _ D2 fun ⟨n, c, k, _⟩ => A2 (List.mem_of_getElem? k)
      have A3 : D ∉ w3.A := fun k => A2 (e3.new D k (by rw [D2]; simp))
      have F3 : w3.F D = none := e3.capt D F2 (by rw [D2]; simp) fun ⟨n, c, k, _⟩ => A2 (List.mem_of_getElem? k)
      cases b with
      | false =>
        exact ⟨w3, acc, us, rfl, h1.trans (e2.trans e3), s3, D3, pd_imp (fun _ _ q => (e2.trans e3).t q) h4, Nat.le_succ_of_le h5, h9, A3, F3⟩
      | true =>
        refine At.use (at_noex (he w3 σ2 ρ1 (hσ2.ext e3))) s3 h9 _ (fun y w4 v _ h10 e4 s4 hy => ?_) fun a w' cls d z e' => q2 a w' cls d z ((ext2.trans e3).trans e')
        have D4 : w4.H D = some (.lst us) := e4.keep D _ D3 fun ⟨n, c, k, _⟩ => A3 (List.mem_of_getElem? k)
        have A4 : D ∉ w4.A := fun k => A3 (e4.new D k (by rw [D3]; simp))
        have F4 : w4.F D = none := e4.capt D F3 (by rw [D3]; simp) fun ⟨n, c, k, _⟩ => A3 (List.mem_of_getElem? k)
        refine ⟨us, D4, ?_, ?_⟩
        · rw [← pd_len h4, sizeLine_eq]
          exact Nat.lt_of_le_of_lt h5 (Nat.lt_of_lt_of_le hlt hxl)
        · have ex4 : Ext w' w4 := h1.trans (e2.trans (e3.trans e4))
          refine ⟨_, acc ++ [y], us ++ [v], rfl, out_ext (o := .lst (us ++ [v])) ex4 hD, out_ok s4 A4 F4, upd_same, ?_, ?_, h10, A4, F4⟩
          · exact pd_app (pd_imp (fun _ _ q => ((e2.trans e3).trans e4).t q) h4) (.cons hy .nil)
          · rw [List.length_append, List.length_singleton]
            omega
  · rintro H ⟨w1, acc, us, rfl, h1, h2, h3, h4, h5, h6, h7, h8⟩
    rw [List.drop_length] at h6
    cases h6
    exact q1 acc us w1 rfl h1 h2 h3 h4 h7 h8
theorem cok_comp {vs is : List Nat} {wi : TI} {g : TG} {tt : TT} {te : TE} {it : AF} {gf : GF} {tf : TF} {el : EF} (hi : IOk K E wi it) (hg : GOk K is g gf) (hgn : GNo gf) (ht : BOk K E0 tt tf) (he : EOk K E0 te el) (hs : ∀ i ∈ is, i ∈ vs) :
    COk K E (tLc wi g tt te vs) (cComp vs it gf tf el) := fun w σ ρ ev s r er Q q1 q2 => by
  have er : mbind (it ρ) (fun xs μ => if xs.length ≤ SL then compL gf tf el (wipeR ρ vs) xs [] μ else none) w.μ = some r := er
  unfold mbind at er
  cases hf : it ρ w.μ with
  | none => rw [hf] at er; cases er
  | some r1 =>
    rw [hf] at er
    cases r1 with
    | ex y μ1 =>
      cases er
      exact hi w σ ρ ev s _ hf _ (fun _ _ z => by cases z) fun x w' cls d z => by cases z; exact q2 _ w' cls d rfl
    | ok xs μ1 =>
      refine hi w σ ρ ev s _ hf _ (fun xs' w' z e1 s1 J G Y wk yl => ?_) fun _ _ _ _ z => by cases z
      cases z
      intro D hD
      have er : (if xs.length ≤ SL then compL gf tf el (wipeR ρ vs) xs [] w'.μ else none) = some r := er
      split at er
      case isFalse => cases er
      rename_i hxl
      refine comp_core (E := E) hg hgn ht he hs (ev.ext e1) s1 wk yl hxl er hD (fun acc us w1 z h1 h2 h3 h4 h7 h8 => ?_) fun x w1 cls d z e' => q2 x w1 cls d z (e1.trans e')
      exact q1 (.lst acc) w1 (.ref D) z (e1.trans h1) h2 ⟨D, rfl, e1.dom D hD, h7, rfl, h8, us, h3, h4⟩
/-! ### a comprehension over a dict: the dict is locked, if it is not locked yet -/
def keyT : Key → T
  | .inl i => .d (.int i)
  | .inr s => .d (.str s)
def keysD : T → Option (List Key)
  | .d (.dct kvs) => some (kvs.map (·.1))
  | _ => none
/-- where the dict stands -/
abbrev Look := Rho → Mu → Option T
def lkV (i : Nat) : Look := fun ρ _ => slotT ρ i
def cCompD (look : Look) (vs : List Nat) (gf : GF) (tf : TF) (el : EF) : CF := fun ρ μ => match (look ρ μ).bind fun x => keysD (rd μ x) with
  | some ks => if ks.length ≤ SL then compL gf tf el (wipeR ρ vs) (ks.map keyT) [] μ else none
  | none => none
abbrev cCompK (i : Nat) (vs : List Nat) (gf : GF) (tf : TF) (el : EF) : CF := cCompD (lkV i) vs gf tf el
structure Dpl (K : PySem.W.Frag) (te : TE) (look : Look) : Prop where
  at_ : ∀ (w : Wd) (σ : L2.St) (ρ : Rho) (x : T), EnvOk K w σ ρ → StOk K w → look ρ w.μ = some x → ∃ v, w.t K x v ∧ ∀ (H' : Hp) (Q : V → Hp → Prop), (∀ b C dx gs, w.H b = some (.ins C dx gs) → H' b = w.H b) → Q v H' → te σ H' Q
theorem dpl_v {i : Nat} : Dpl K (tVar i) (lkV i) := ⟨fun w σ ρ x ev s h => by
  obtain ⟨v, hσ, hv⟩ := ev.2 i x (slotT_some h)
  exact ⟨v, hv, fun H' Q _ q => ⟨v, hσ, q⟩⟩⟩
theorem key_rep {w : Wd} (k : Key) : w.t K (keyT k) (kV k) := by cases k <;> rfl
section
variable {F F' : Hp} {d : Addr} {o1 o2 : HO} {ws : List (Key × V)}
/-- dicts' ways to stand -/
structure Way (F F' : Hp) (d : Addr) (ws : List (Key × V)) : Prop where
  one : ∃ o, F d = some o ∧ (o = .dK ws ∨ ∃ od, o = .frz od (.dK ws))
  two : Rd F' d (.dK ws)
  els : ∀ b, b ≠ d → F' b = F b
theorem Way.rd (h : Way F F' d ws) {a : Addr} {vs : List (Key × V)} (q : Rd F a (.dK vs)) : Rd F' a (.dK vs) := by
  by_cases e : a = d
  · subst e
    obtain ⟨o, h1, h2⟩ := h.one
    have : vs = ws := by
      rcases q with q | ⟨od, q⟩ <;> rw [h1] at q <;> cases q
      · rcases h2 with z | ⟨_, z⟩ <;> cases z
        rfl
      · rcases h2 with z | ⟨_, z⟩ <;> cases z
        rfl
    rw [this]
    exact h.two
  · unfold Rd
    rw [h.els a e]
    exact q
theorem Way.ne (h : Way F F' d ws) {a : Addr} {o : HO} (q : F a = some o) (h1 : ∀ vs, o ≠ .dK vs) (h2 : ∀ od vs, o ≠ .frz od (.dK vs)) : F' a = some o := by
  rw [h.els a fun z => ?_]
  · exact q
  · subst z
    obtain ⟨o', k1, k2⟩ := h.one
    rw [k1] at q
    cases q
    rcases k2 with z | ⟨od, z⟩
    · exact h1 _ z
    · exact h2 _ _ z
mutual
theorem Rep.way (h : Way F F' d ws) : ∀ {x : D} {v : V}, Rep K F x v → Rep K F' x v
  | .non, v, q => q
  | .bl b, v, q => q
  | .int i, v, q => q
  | .str s, v, q => q
  | .lst ds, v, ⟨a, vs, h1, h2, h3⟩ => ⟨a, vs, h1, h.ne h2 (fun _ z => by cases z) (fun _ _ z => by cases z), Reps.way h h3⟩
  | .tup ds, v, ⟨a, vs, h1, h2, h3⟩ => ⟨a, vs, h1, h.ne h2 (fun _ z => by cases z) (fun _ _ z => by cases z), Reps.way h h3⟩
  | .dct kvs, v, ⟨a, vs, h1, h2, h3⟩ => ⟨a, vs, h1, h.rd h2, RepK.way h h3⟩
  | .kl ns, v, ⟨a, h1, h2⟩ => ⟨a, h1, by
    rcases h2 with (q | ⟨o, q⟩) | q
    · exact .inl (.inl (h.ne q (fun _ z => by cases z) (fun _ _ z => by cases z)))
    · exact .inl (.inr ⟨o, h.ne q (fun _ z => by cases z) (fun _ _ z => by cases z)⟩)
    · exact .inr q⟩
theorem Reps.way (h : Way F F' d ws) : ∀ {ds : List D} {vs : List V}, Reps K F ds vs → Reps K F' ds vs
  | [], _, q => q
  | x :: ds, _, ⟨v, r, h1, h2, h3⟩ => ⟨v, r, h1, Rep.way h h2, Reps.way h h3⟩
theorem RepK.way (h : Way F F' d ws) : ∀ {ds : List (Key × D)} {vs : List (Key × V)}, RepK K F ds vs → RepK K F' ds vs
  | [], _, q => q
  | (k, x) :: ds, _, ⟨v, r, h1, h2, h3⟩ => ⟨v, r, h1, Rep.way h h2, RepK.way h h3⟩
end
theorem RepT.way {A : List Addr} (h : Way F F' d ws) {x : T} {v : V} (q : RepT K F A x v) : RepT K F' A x v := by
  cases x with
  | d x => exact Rep.way h q
  | p n => exact q
end
/-- a world in which a dict that nothing changes stands in another way -/
theorem way_ok {w : Wd} (s : StOk K w) {F' H' : Hp} {d : Addr} {ws : List (Key × V)} (hF : Way w.F F' d ws) (hd : ∀ o, F' d = some o → H' d = some o) (hH : ∀ b, b ≠ d → H' b = w.H b) (hn : H' d ≠ none) : StOk K ⟨F', H', w.A, w.μ⟩ := by
  have fd : w.F d ≠ none := by
    obtain ⟨o, k, _⟩ := hF.one
    rw [k]
    simp
  refine ⟨fun b o q => ?_, s.len, s.nd, fun b hb => ?_, fun n b c k1 k2 => ?_⟩
  · show H' b = some o
    have q : F' b = some o := q
    by_cases e : b = d
    · subst e; exact hd o q
    · rw [hH b e]
      rw [hF.els b e] at q
      exact s.sub b o q
  · show H' b ≠ none
    by_cases e : b = d
    · subst e; exact hn
    · rw [hH b e]; exact s.tr b hb
  · have q := s.cell n b c k1 k2
    have m : ∀ x v, w.t K x v → RepT K F' w.A x v := fun x v z => RepT.way hF z
    cases c with
    | lst xs =>
      obtain ⟨z, vs, e, p⟩ := q
      have ne : b ≠ d := fun y => fd (by rw [← y]; exact z)
      exact ⟨by show F' b = none; rw [hF.els b ne]; exact z, vs, by show H' b = _; rw [hH b ne]; exact e, pd_imp m p⟩
    | dct xs =>
      obtain ⟨z, vs, e, p⟩ := q
      have ne : b ≠ d := fun y => fd (by rw [← y]; exact z)
      exact ⟨by show F' b = none; rw [hF.els b ne]; exact z, vs, by show H' b = _; rw [hH b ne]; exact e, pd_imp (fun p q r => ⟨r.1, m _ _ r.2⟩) p⟩
    | dcu xs =>
      obtain ⟨z, vs, e, p⟩ := q
      have ne : b ≠ d := fun y => fd (by rw [← y]; exact z)
      exact ⟨by show F' b = none; rw [hF.els b ne]; exact z, vs, by show H' b = _; rw [hH b ne]; exact e, pd_imp (fun p q r => ⟨r.1, m _ _ r.2⟩) p⟩
    | obj c xs =>
      obtain ⟨z, dx, vs, C, hC, e, p⟩ := q
      have ne : b ≠ d := fun y => fd (by rw [← y]; exact z)
      exact ⟨by show F' b = none; rw [hF.els b ne]; exact z, dx, vs, C, hC, by show H' b = _; rw [hH b ne]; exact e, pd_imp (fun p q r => ⟨r.1, m _ _ r.2⟩) p⟩
    | frz x => exact Rep.way hF q
theorem mbx_noex {α β : Type} {f : M α} {g : α → M β} {μ : Mu} {r : Rs β} (h : mbind (noex f) g μ = some r) : ∃ a m, f μ = some (.ok a m) ∧ g a m = some r := by
  unfold mbind at h
  cases hf : noex f μ with
  | none => rw [hf] at h; cases h
  | some q =>
    obtain ⟨a, m, rfl, e⟩ := noex_some hf
    rw [hf] at h
    exact ⟨a, m, e, h⟩
theorem compL_ok {gf : GF} {tf : TF} {el : EF} {ρ : Rho} : ∀ {xs acc : List T} {μ : Mu} {r : Rs Cell}, compL gf tf el ρ xs acc μ = some r → ∃ c m, r = .ok c m
  | [], acc, μ, r, h => by cases h; exact ⟨_, _, rfl⟩
  | x :: xs, acc, μ, r, h => by
    obtain ⟨ρ2, m, _, h⟩ := mbx_noex h
    obtain ⟨b, m2, _, h⟩ := mbx_noex h
    cases b with
    | false => exact compL_ok (xs := xs) h
    | true =>
      obtain ⟨y, m3, _, h⟩ := mbx_noex h
      exact compL_ok h
def tOrE (a b : TE) : TE := fun σ H Q => a σ H Q ∨ b σ H Q
theorem pe_or {X : Cx} {e : Expr} {a b : TE} (ha : PE X e a) (hb : PE X e b) : PE X e (tOrE a b) := ⟨fun pins s σ H Q I h => by
  rcases h with h | h
  · exact ha.run pins s σ H Q I h
  · exact hb.run pins s σ H Q I h⟩
theorem cok_compD {look : Look} {ti : TE} {vs is : List Nat} {g : TG} {tt : TT} {te : TE} {gf : GF} {tf : TF} {el : EF} (hi : Dpl K ti look) (hg : GOk K is g gf) (hgn : GNo gf) (ht : BOk K E0 tt tf) (he : EOk K E0 te el) (hs : ∀ i ∈ is, i ∈ vs) :
    COk K E (tOrE (tLc (iKeys ti) g tt te vs) (tLockE (tLc (iKeys ti) g tt te vs))) (cCompD look vs gf tf el) := fun w σ ρ ev s r er Q q1 q2 => by
  unfold cCompD at er
  split at er
  case h_2 => cases er
  rename_i ks hks
  split at er
  case isFalse => cases er
  rename_i hkl
  obtain ⟨x0, hx0, hx1⟩ := Option.bind_eq_some_iff.mp hks
  obtain ⟨v0, hv0, hte⟩ := hi.at_ w σ ρ x0 ev s hx0
  have hv1 := rd_ok s hv0
  generalize rd w.μ x0 = x1 at hx1 hv1
  unfold keysD at hx1
  split at hx1
  case h_2 => cases hx1
  rename_i kvs
  cases hx1
  obtain ⟨d, ws, rfl, hF, hrep⟩ := hv1
  have hkeys : ws.map (·.1) = kvs.map (·.1) := by
    have q := RepK.paired.mp hrep
    clear hrep hF hks hkl er hte hv0
    induction q with
    | nil => rfl
    | cons a b ih => rw [List.map_cons, List.map_cons, ih, a.1]
  have hlen : ((kvs.map (·.1)).map keyT).length = ws.length := by rw [List.length_map, ← hkeys, List.length_map]
  have yld : ∀ (od : Obj) (wb : Wd), wb.F d = some (.frz od (.dK ws)) → Yields K wb ((kvs.map (·.1)).map keyT) (fun H => H d = some (.frz od (.dK ws))) (fun i H x H' => H' = H ∧ ∃ k v, ws[i]? = some (k, v) ∧ x = kV k) := fun od wb Fbd w1 e1 s1 => ⟨s1.sub d _ (e1.sub d _ Fbd), fun j x H' hj y => by
    obtain ⟨h1, k, v, h2, h3⟩ := y
    refine ⟨w1, keyT k, h1.symm, rfl, Ext.refl _, s1, ?_, by rw [h3]; exact key_rep k⟩
    rw [List.getElem?_map, ← hkeys, List.getElem?_map, h2] <;> rfl⟩
  rcases hF with hF | ⟨od, hF⟩
  · right
    have hH := s.sub d _ hF
    refine ⟨d, .dK ws, hH, trivial, fun od => ?_⟩
    have wy : Way w.F (upd w.F d (.frz od (.dK ws))) d ws := ⟨⟨_, hF, .inl rfl⟩, .inr ⟨od, upd_same⟩, fun b hb => upd_ne hb⟩
    let wb : Wd := ⟨upd w.F d (.frz od (.dK ws)), upd w.H d (.frz od (.dK ws)), w.A, w.μ⟩
    have sb : StOk K wb := way_ok s wy (fun o q => by rw [upd_same] at q ⊢; exact q) (fun b hb => upd_ne hb) (by rw [upd_same]; simp)
    have evb : EnvOk K wb σ ρ := ⟨ev.1, fun j x hx => by
      obtain ⟨v, h3, h4⟩ := ev.2 j x hx
      exact ⟨v, h3, RepT.way wy h4⟩⟩
    refine hte _ _ (fun b C dx gs hb => upd_ne fun z => by rw [z, hH] at hb; cases hb) ⟨d, od, rfl, .inl ⟨ws, upd_same, fun D hD => ?_⟩⟩
    have hDd : D ≠ d := fun z => by rw [z, upd_same] at hD; cases hD
    have hD0 : w.H D = none := by rw [upd_ne hDd] at hD; exact hD
    have wk := walk_keys (d := d) (o := od) (kvs := ws)
    rw [← hlen] at wk
    have Fbd : wb.F d = some (.frz od (.dK ws)) := upd_same
    refine comp_core (E := E) (K := K) (w' := wb) hg hgn ht he hs evb sb wk (yld od wb Fbd) (by rw [List.length_map]; exact hkl) er hD (fun acc us w1 z h1 h2 h3 h4 h7 h8 => ?_) fun x w1 cls dd z _ _ _ => by
      obtain ⟨a, m, e⟩ := compL_ok er
      rw [e] at z
      cases z
    have F1d : w1.F d = some (.frz od (.dK ws)) := h1.sub d _ Fbd
    refine ⟨h2.sub d _ F1d, ?_⟩
    have wy1 : Way w1.F (upd w1.F d (.dK ws)) d ws := ⟨⟨_, F1d, .inr ⟨od, rfl⟩⟩, .inl upd_same, fun b hb => upd_ne hb⟩
    let w2 : Wd := ⟨upd w1.F d (.dK ws), upd w1.H d (.dK ws), w1.A, w1.μ⟩
    have s2 : StOk K w2 := way_ok h2 wy1 (fun o q => by rw [upd_same] at q ⊢; exact q) (fun b hb => upd_ne hb) (by rw [upd_same]; simp)
    have hbd : ∀ b, b ≠ d → wb.H b = w.H b := fun b hb => upd_ne hb
    have e2 : Ext w w2 := by
      refine ⟨fun b o q => ?_, h1.pre, fun b q => ?_, fun b o q l => ?_, fun b k1 k2 l => ?_, fun b l k => ?_, fun b hb k => ?_⟩
      · show upd w1.F d (.dK ws) b = some o
        by_cases e : b = d
        · rw [e, hF] at q; rw [e, upd_same]; exact q
        · rw [upd_ne e]; exact h1.sub b o (by show upd w.F d _ b = some o; rw [upd_ne e]; exact q)
      · have q : upd w1.H d (.dK ws) b = none := q
        by_cases e : b = d
        · rw [e, upd_same] at q; cases q
        · rw [upd_ne e] at q
          rw [← hbd b e]
          exact h1.dom b q
      · show upd w1.H d _ b = some o
        by_cases e : b = d
        · rw [e, hH] at q; rw [e, upd_same]; exact q
        · rw [upd_ne e]; exact h1.keep b o (by rw [hbd b e]; exact q) l
      · show upd w1.F d _ b = none
        have e : b ≠ d := fun z => by rw [z, hF] at k1; cases k1
        rw [upd_ne e]
        exact h1.capt b (by show upd w.F d _ b = none; rw [upd_ne e]; exact k1) (by rw [hbd b e]; exact k2) l
      · by_cases e : b = d
        · subst e
          have : w1.live b := l
          have := (h2.liveF this).1
          rw [F1d] at this
          cases this
        · exact h1.lv b l (by rw [hbd b e]; exact k)
      · by_cases e : b = d
        · subst e
          exact h1.new b hb (by show upd w.H b _ b ≠ none; rw [upd_same]; simp)
        · exact h1.new b hb (by rw [hbd b e]; exact k)
    refine q1 (.lst acc) w2 (.ref D) z e2 s2 ⟨D, rfl, hD0, h7, rfl, ?_, us, ?_, ?_⟩
    · show upd w1.F d _ D = none
      rw [upd_ne hDd]; exact h8
    · show upd w1.H d _ D = some (.lst us)
      rw [upd_ne hDd]; exact h3
    · exact pd_imp (fun x v q => RepT.way wy1 q) h4
  · left
    have hH := s.sub d _ hF
    refine hte _ _ (fun b C dx gs hb => rfl) ⟨d, od, rfl, .inl ⟨ws, hH, fun D hD => ?_⟩⟩
    have wk := walk_keys (d := d) (o := od) (kvs := ws)
    rw [← hlen] at wk
    refine comp_core (E := E) (K := K) (w' := w) hg hgn ht he hs ev s wk (yld od w hF) (by rw [List.length_map]; exact hkl) er hD (fun acc us w1 z h1 h2 h3 h4 h7 h8 => ?_) fun x w1 cls dd z _ _ _ => by
      obtain ⟨a, m, e⟩ := compL_ok er
      rw [e] at z
      cases z
    exact q1 (.lst acc) w1 (.ref D) z h1 h2 ⟨D, rfl, hD, h7, rfl, h8, us, h3, h4⟩
structure PTF (K : PySem.W.Frag) (X : Cx) (E : XK) (ifs : List Expr) (t : TT) (f : TF) : Prop where
  pe : PTs X ifs t
  ok : BOk K E t f
theorem pts0 : PTF K X E [] tYes bTrue := ⟨pts_nil, bok_true⟩
theorem pts1 {c : Expr} {t : TT} {f : TF} (h : PB K X E c t f) : PTF K X E [c] t f := ⟨pts_one h.pe, h.ok⟩
/-- a block's place -/
theorem Bd.blk {k : Nat} (B : Bd X E k) (s : Shared) (H : Hp) (scope : Scope) (cenv : Env) (fp : List Addr) : Bd (X.blk s H scope cenv fp) E0 k := ⟨B.room, passL, B.calm⟩
section
variable {elt tg iter : Expr} {ifs : List Expr} {scope : Scope} {pos : Pos} {wi : TI} {g : TG} {tt : TT} {te : TE} {it : AF} {gf : GF} {tf : TF} {el : EF} {is : List Nat} {k : Nat}
/-- what a comprehension's rule asks -/
structure PLc (K : PySem.W.Frag) (X : Cx) (E : XK) (own : List (Str × Nat)) (elt tg iter : Expr) (ifs : List Expr) (scope : Scope) (wi : TI) (g : TG) (tt : TT) (te : TE) (f : CF) : Prop where
  calm : X.calm = true
  nd : X.N.Nodup
  hi : PI X tg iter wi
  blk : BlkOk X.N X.env.scope scope own
  hg : ∀ (s : Shared) (H : Hp) (C : Addr) (cl : List (Str × Addr)) (fp : List Addr), PG (X.blk s H scope (compEnvC scope cl C X.env) fp) tg g
  ht : ∀ (s : Shared) (H : Hp) (C : Addr) (cl : List (Str × Addr)) (fp : List Addr), PTs (X.blk s H scope (compEnvC scope cl C X.env) fp) ifs tt
  he : ∀ (s : Shared) (H : Hp) (C : Addr) (cl : List (Str × Addr)) (fp : List Addr), PE (X.blk s H scope (compEnvC scope cl C X.env) fp) elt te
  ok : COk K E (tLc wi g tt te (own.map (·.2))) f
theorem plc {own : List (Str × Nat)} {N : List Str} {sc : Scope} (B : Bd X E k) (nd : X.N.Nodup) (hi : PIt K X E tg iter wi it) (blk : blkC N sc scope own = true)
    (hg : ∀ (s : Shared) (H : Hp) (C : Addr) (cl : List (Str × Addr)) (fp : List Addr), PGt K (X.blk s H scope (compEnvC scope cl C X.env) fp) is tg g gf)
    (ht : ∀ (s : Shared) (H : Hp) (C : Addr) (cl : List (Str × Addr)) (fp : List Addr), Bd (X.blk s H scope (compEnvC scope cl C X.env) fp) E0 k → PTF K (X.blk s H scope (compEnvC scope cl C X.env) fp) E0 ifs tt tf)
    (he : ∀ (s : Shared) (H : Hp) (C : Addr) (cl : List (Str × Addr)) (fp : List Addr), Bd (X.blk s H scope (compEnvC scope cl C X.env) fp) E0 k → PD K (X.blk s H scope (compEnvC scope cl C X.env) fp) E0 elt te el)
    (hs : ∀ i ∈ is, i ∈ own.map (·.2) := by decide) (eN : X.N = N := by rfl) (es : X.env.scope = sc := by rfl) : PLc K X E own elt tg iter ifs scope wi g tt te (cComp (own.map (·.2)) it gf tf el) :=
  ⟨B.calm, nd, hi.pe, blkOk_by (by rw [eN, es]; exact blk), fun s H C cl fp => (hg s H C cl fp).pe, fun s H C cl fp => (ht s H C cl fp (B.blk s H scope _ fp)).pe, fun s H C cl fp => (he s H C cl fp (B.blk s H scope _ fp)).pe,
    cok_comp hi.ok (hg X.s_0 (fun _ => none) 0 [] []).ok (hg X.s_0 (fun _ => none) 0 [] []).no (ht X.s_0 (fun _ => none) 0 [] [] (B.blk _ _ _ _ _)).ok (he X.s_0 (fun _ => none) 0 [] [] (B.blk _ _ _ _ _)).ok hs⟩
theorem pc_lc {own : List (Str × Nat)} {f : CF} (h : PLc K X E own elt tg iter ifs scope wi g tt te f) (hs : ∀ x, foldedSetIterable iter X.env x = pure x := by intro _; rfl) : PCr K X E (.ListComp elt [⟨tg, iter, ifs, 0⟩] scope pos) (tLc wi g tt te (own.map (·.2))) f :=
  ⟨pe_lc h.calm h.nd h.hi h.blk h.hg h.ht h.he hs, h.ok⟩
/-- [elt for x in d], d a name or a field that holds a dict -/
theorem pc_lcD {iter : Expr} {ti : TE} {look : Look} {own : List (Str × Nat)} {N : List Str} {sc : Scope} (B : Bd X E k) (nd : X.N.Nodup) (hi : PE X iter ti) (hd : Dpl K ti look) (blk : blkC N sc scope own = true)
    (hg : ∀ (s : Shared) (H : Hp) (C : Addr) (cl : List (Str × Addr)) (fp : List Addr), PGt K (X.blk s H scope (compEnvC scope cl C X.env) fp) is tg g gf)
    (ht : ∀ (s : Shared) (H : Hp) (C : Addr) (cl : List (Str × Addr)) (fp : List Addr), Bd (X.blk s H scope (compEnvC scope cl C X.env) fp) E0 k → PTF K (X.blk s H scope (compEnvC scope cl C X.env) fp) E0 ifs tt tf)
    (he : ∀ (s : Shared) (H : Hp) (C : Addr) (cl : List (Str × Addr)) (fp : List Addr), Bd (X.blk s H scope (compEnvC scope cl C X.env) fp) E0 k → PD K (X.blk s H scope (compEnvC scope cl C X.env) fp) E0 elt te el)
    (hs : ∀ i ∈ is, i ∈ own.map (·.2) := by decide) (hf : ∀ y, foldedSetIterable iter X.env y = pure y := by intro _; rfl) (eN : X.N = N := by rfl) (es : X.env.scope = sc := by rfl) :
    PCr K X E (.ListComp elt [⟨tg, iter, ifs, 0⟩] scope pos) (tOrE (tLc (iKeys ti) g tt te (own.map (·.2))) (tLockE (tLc (iKeys ti) g tt te (own.map (·.2))))) (cCompD look (own.map (·.2)) gf tf el) := by
  have h := pe_lc (pos := pos) B.calm nd (pi_keys hi) (blkOk_by (by rw [eN, es]; exact blk)) (fun s H C cl fp => (hg s H C cl fp).pe) (fun s H C cl fp => (ht s H C cl fp (B.blk s H scope _ fp)).pe) (fun s H C cl fp => (he s H C cl fp (B.blk s H scope _ fp)).pe) hf
  exact ⟨pe_or h (pe_lock h), cok_compD hd (hg X.s_0 (fun _ => none) 0 [] []).ok (hg X.s_0 (fun _ => none) 0 [] []).no (ht X.s_0 (fun _ => none) 0 [] [] (B.blk _ _ _ _ _)).ok (he X.s_0 (fun _ => none) 0 [] [] (B.blk _ _ _ _ _)).ok hs⟩
/-- [elt for x in d], d a name that holds a dict -/
theorem pc_lcK (i : Nat) {x : Str} {xp : Pos} {own : List (Str × Nat)} {N : List Str} {sc : Scope} (B : Bd X E k) (nd : X.N.Nodup) (blk : blkC N sc scope own = true)
    (hg : ∀ (s : Shared) (H : Hp) (C : Addr) (cl : List (Str × Addr)) (fp : List Addr), PGt K (X.blk s H scope (compEnvC scope cl C X.env) fp) is tg g gf)
    (ht : ∀ (s : Shared) (H : Hp) (C : Addr) (cl : List (Str × Addr)) (fp : List Addr), Bd (X.blk s H scope (compEnvC scope cl C X.env) fp) E0 k → PTF K (X.blk s H scope (compEnvC scope cl C X.env) fp) E0 ifs tt tf)
    (he : ∀ (s : Shared) (H : Hp) (C : Addr) (cl : List (Str × Addr)) (fp : List Addr), Bd (X.blk s H scope (compEnvC scope cl C X.env) fp) E0 k → PD K (X.blk s H scope (compEnvC scope cl C X.env) fp) E0 elt te el)
    (hN : X.N[i]? = some x := by rfl) (hv : Vis X.env.scope x := by first | exact Or.inl rfl | exact Or.inr (Or.inl rfl) | exact Or.inr (Or.inr rfl)) (hd : (x == ("__debug__" : Str)) = false := by decide) (hcd : (x == ("__classdict__" : Str)) = false := by decide)
    (hs : ∀ i ∈ is, i ∈ own.map (·.2) := by decide) (hf : ∀ y, foldedSetIterable (.Name x xp) X.env y = pure y := by intro _; rfl) (eN : X.N = N := by rfl) (es : X.env.scope = sc := by rfl) :
    PCr K X E (.ListComp elt [⟨tg, .Name x xp, ifs, 0⟩] scope pos) (tOrE (tLc (iKeys (tVar i)) g tt te (own.map (·.2))) (tLockE (tLc (iKeys (tVar i)) g tt te (own.map (·.2))))) (cCompK i (own.map (·.2)) gf tf el) :=
  pc_lcD B nd (pe_var hN hv hd hcd) dpl_v blk hg ht he hs hf eN es
end
end
end Fm
set_option Elab.async false
set_option linter.all false
set_option maxRecDepth 100000
namespace Fm
open PySem L2 PySem.Spec PyProof.Rows

/-! ### statements -/
inductive Fl where
  | nx | bk | ct | ret (x : T)
abbrev SF := Rho → M (Fl × Rho)
def FlOk (K : PySem.W.Frag) (w : Wd) (ρ : Rho) (D : Ends) : Fl → Prop
  | .nx => ∀ σ, EnvOk K w σ ρ → D.nx σ w.H
  | .bk => ∀ σ, EnvOk K w σ ρ → D.bk σ w.H
  | .ct => ∀ σ, EnvOk K w σ ρ → D.ct σ w.H
  | .ret x => ∀ v, w.t K x v → D.rt v w.H
def SPost (K : PySem.W.Frag) (E : XK) (w : Wd) (D : Ends) (r : Rs (Fl × Rho)) : Prop :=
  (∀ fl ρ' w', r = .ok (fl, ρ') w'.μ → Ext w w' → StOk K w' → FlOk K w' ρ' D fl) ∧ (∀ x w' cls d, r = .ex x w'.μ → Ext w w' → StOk K w' → ExnOk K w' x cls d → E cls d w'.H)
theorem SPost.from {K : PySem.W.Frag} {E : XK} {w w1 : Wd} {D : Ends} {r : Rs (Fl × Rho)} (h : SPost K E w D r) (e : Ext w w1) : SPost K E w1 D r :=
  ⟨fun fl ρ' w' z e' => h.1 fl ρ' w' z (e.trans e'), fun x w' cls d z e' => h.2 x w' cls d z (e.trans e')⟩
def SOk (K : PySem.W.Frag) (E : XK) (t : TS) (f : SF) : Prop := ∀ (w : Wd) (σ : L2.St) (ρ : Rho), EnvOk K w σ ρ → StOk K w → ∀ r, f ρ w.μ = some r → ∀ D : Ends, SPost K E w D r → t D σ w.H
structure PSt (K : PySem.W.Frag) (X : Cx) (E : XK) (st : Stmt) (t : TS) (f : SF) : Prop where
  pe : PS X st t
  ok : SOk K E t f
structure PBl (K : PySem.W.Frag) (X : Cx) (E : XK) (sts : List Stmt) (t : TS) (f : SF) : Prop where
  pe : PSs X sts t
  ok : SOk K E t f
section
variable {X : Cx} {E : XK} {K : PySem.W.Frag}
@[simp] def sNx : SF := fun ρ => mret (.nx, ρ)
def sBk : SF := fun ρ => mret (.bk, ρ)
def sCt : SF := fun ρ => mret (.ct, ρ)
theorem sok_nx : SOk K E tNext sNx := fun w σ ρ ev s r e D P => by cases e; exact P.1 .nx ρ w rfl (Ext.refl w) s σ ev
theorem sok_bk : SOk K E tBreak sBk := fun w σ ρ ev s r e D P => by cases e; exact P.1 .bk ρ w rfl (Ext.refl w) s σ ev
theorem sok_ct : SOk K E tCont sCt := fun w σ ρ ev s r e D P => by cases e; exact P.1 .ct ρ w rfl (Ext.refl w) s σ ev
theorem st_pass {pos : Pos} : PSt K X E (.Pass pos) tNext sNx := ⟨ps_pass, sok_nx⟩
theorem st_break {pos : Pos} : PSt K X E (.Break pos) tBreak sBk := ⟨ps_break, sok_bk⟩
theorem st_cont {pos : Pos} : PSt K X E (.Continue pos) tCont sCt := ⟨ps_continue, sok_ct⟩
theorem bl_nil : PBl K X E [] tNext sNx := ⟨pss_nil, sok_nx⟩
theorem bl_one {st : Stmt} {t : TS} {f : SF} (h : PSt K X E st t f) : PBl K X E [st] t f := ⟨pss_one h.pe, h.ok⟩
/-- what follows a flow -/
@[simp] def thenS (g : SF) : Fl × Rho → M (Fl × Rho) := fun p => match p.1 with
  | .nx => g p.2
  | _ => mret p
@[simp] def sSeq (f g : SF) : SF := fun ρ => mbind (f ρ) (thenS g)
theorem sok_seq {t u : TS} {f g : SF} (hf : SOk K E t f) (hg : SOk K E u g) : SOk K E (tSeq t u) (sSeq f g) := fun w σ ρ ev s r e D P => by
  show t { D with nx := u D } σ w.H
  have e : mbind (f ρ) (thenS g) w.μ = some r := e
  unfold mbind at e
  cases hf2 : f ρ w.μ with
  | none => rw [hf2] at e; cases e
  | some r1 =>
    rw [hf2] at e
    cases r1 with
    | ex x μ1 =>
      cases e
      exact hf w σ ρ ev s _ hf2 _ ⟨(fun fl ρ' w' z => by cases z), fun x w' cls d z => by cases z; exact P.2 _ w' cls d rfl⟩
    | ok p μ1 =>
      obtain ⟨fl, ρ1⟩ := p
      refine hf w σ ρ ev s _ hf2 _ ⟨fun fl' ρ' w' z e1 s1 => ?_, fun _ _ _ _ z => by cases z⟩
      cases z
      cases fl with
      | nx => exact fun σ' hσ => hg w' σ' ρ1 hσ s1 r e D (P.from e1)
      | bk => cases e; exact P.1 .bk ρ1 w' rfl e1 s1
      | ct => cases e; exact P.1 .ct ρ1 w' rfl e1 s1
      | ret x => cases e; exact P.1 (.ret x) ρ1 w' rfl e1 s1
theorem bl_cons {st : Stmt} {sts : List Stmt} {t u : TS} {f g : SF} (h : PSt K X E st t f) (hr : PBl K X E sts u g) : PBl K X E (st :: sts) (tSeq t u) (sSeq f g) := ⟨pss_cons h.pe hr.pe, sok_seq h.ok hr.ok⟩
@[simp] def sDrop (f : EF) : SF := fun ρ => mbind (f ρ) fun _ => mret (.nx, ρ)
theorem sok_drop {t : TE} {f : EF} (h : EOk K E t f) : SOk K E (tDrop t) (sDrop f) := fun w σ ρ ev s r e D P => by
  show t σ w.H fun _ H1 => D.nx σ H1
  refine At.use (h w σ ρ ev) s e _ (fun x w1 v _ e1 x1 s1 _ => ?_) P.2
  cases e1
  exact P.1 .nx ρ w1 rfl x1 s1 σ (ev.ext x1)
theorem st_expr {e : Expr} {t : TE} {f : EF} {pos : Pos} (h : PD K X E e t f) (hs : swapsWith e none pos.line X.env = pure false := by rfl) : PSt K X E (.Expr e pos) (tDrop t) (sDrop f) := ⟨ps_expr h.pe hs, sok_drop h.ok⟩
@[simp] def sRet (f : EF) : SF := fun ρ => mbind (f ρ) fun x μ => some (.ok (.ret (rd μ x), ρ) μ)
theorem sok_ret {t : TE} {f : EF} (h : EOk K E t f) : SOk K E (tRet t) (sRet f) := fun w σ ρ ev s r e D P => by
  show t σ w.H D.rt
  refine At.use (h w σ ρ ev) s e _ (fun x w1 v _ e1 x1 s1 hx => ?_) P.2
  cases e1
  exact P.1 (.ret (rd w1.μ x)) ρ w1 rfl x1 s1 v (rd_ok s1 hx)
theorem st_ret {e : Expr} {t : TE} {f : EF} {pos : Pos} (h : PD K X E e t f) : PSt K X E (.Return (some e) pos) (tRet t) (sRet f) := ⟨ps_ret h.pe, sok_ret h.ok⟩
def sRetN : SF := fun ρ => mret (.ret (.d .non), ρ)
theorem st_retN {pos : Pos} : PSt K X E (.Return none pos) tRetN sRetN := ⟨ps_retN, fun w σ ρ ev s r e D P => by cases e; exact P.1 (.ret (.d .non)) ρ w rfl (Ext.refl w) s .non rfl⟩
@[simp] def sIf (c : TF) (f g : SF) : SF := fun ρ => mbind (c ρ) fun b => if b = true then f ρ else g ρ
theorem sok_if {tc : TT} {t u : TS} {c : TF} {f g : SF} (hc : BOk K E tc c) (hf : SOk K E t f) (hg : SOk K E u g) : SOk K E (tIfS tc t u) (sIf c f g) := fun w σ ρ ev s r e D P => by
  show tc σ w.H fun b H1 => if b = true then t D σ H1 else u D σ H1
  refine At.use (hc w σ ρ ev) s e _ (fun b w1 b' _ e1 x1 s1 hb => ?_) P.2
  cases hb
  cases b with
  | true => exact hf w1 σ ρ (ev.ext x1) s1 r e1 D (P.from x1)
  | false => exact hg w1 σ ρ (ev.ext x1) s1 r e1 D (P.from x1)
theorem st_if {c : Expr} {a b : List Stmt} {tc : TT} {t u : TS} {fc : TF} {f g : SF} {pos : Pos} (hc : PB K X E c tc fc) (ha : PBl K X E a t f) (hb : PBl K X E b u g) : PSt K X E (.If c a b pos) (tIfS tc t u) (sIf fc f g) := ⟨ps_if hc.pe ha.pe hb.pe, sok_if hc.ok ha.ok hb.ok⟩
/-- an assignment -/
@[simp] def sAsg (f : EF) (g : GF) : SF := fun ρ => mbind (f ρ) fun x => mbind (g x ρ) fun ρ' => mret (.nx, ρ')
theorem sok_asg {t : TE} {g : TG} {f : EF} {gf : GF} {is : List Nat} (h : EOk K E t f) (hg : GOk K is g gf) (hn : GNo gf) : SOk K E (tAsg t g) (sAsg f gf) := fun w σ ρ ev s r e D P => by
  show t σ w.H fun x H1 => g x σ H1 D.nx
  refine At.use (h w σ ρ ev) s e _ (fun x w1 v _ e1 x1 s1 hx => ?_) P.2
  unfold mbind at e1
  cases hq : gf x ρ w1.μ with
  | none => rw [hq] at e1; cases e1
  | some rg =>
    obtain ⟨ρ', hρ⟩ := hn _ _ _ _ hq
    cases hρ
    rw [hq] at e1
    cases e1
    exact hg w1 σ ρ x v ρ' (ev.ext x1) s1 hx hq _ fun σ' hσ _ => P.1 .nx ρ' w1 rfl x1 s1 σ' hσ
theorem st_asg {tg e : Expr} {t : TE} {g : TG} {f : EF} {gf : GF} {is : List Nat} {pos : Pos} (h : PD K X E e t f) (hg : PGt K X is tg g gf) (hs : swapsWithSole [tg] e pos.line X.env = pure false := by rfl) (hw : swappedStores [tg] e X.env = pure none := by rfl) (h1 : (assignEach [tg] X.env).map (·.2) = [assign tg X.env] := by rfl) :
    PSt K X E (.Assign [tg] e pos) (tAsg t g) (sAsg f gf) := ⟨ps_asg h.pe hg.pe hs hw h1, sok_asg h.ok hg.ok hg.no⟩
/-- name = [comprehension], on one line: as data, or as a cell -/
theorem st_lc (i : Nat) {y : Str} {py : Pos} {elt tg iter : Expr} {ifs : List Expr} {scope : Scope} {own : List (Str × Nat)} {pos spos : Pos} {wi : TI} {g : TG} {tt : TT} {te : TE} {f : CF} {fe : EF} (h : PLc K X E own elt tg iter ifs scope wi g tt te f) (hf : EOk K E (tLc wi g tt te (own.map (·.2))) fe)
    (hsw : swapsWith (.ListComp elt [⟨tg, iter, ifs, 0⟩] scope pos) (some (.Name y py)) spos.line X.env = pure true) (hy : X.N[i]? = some y := by rfl) (hyl : X.env.scope.names.lookup y = some .local := by rfl) (hs : ∀ x, foldedSetIterable iter X.env x = pure x := by intro _; rfl) :
    PSt K X E (.Assign [.Name y py] (.ListComp elt [⟨tg, iter, ifs, 0⟩] scope pos) spos) (tAsg (tLc wi g tt te (own.map (·.2))) (gName i)) (sAsg fe (gN i)) :=
  ⟨ps_setLc h.calm h.nd hy hyl hsw h.hi h.blk h.hg h.ht h.he hs, sok_asg hf (gok_n i) (gno_n i)⟩
/-- x += e -/
def sAug (i : Nat) (g : G2) (f : EF) : SF := fun ρ => mbind (eVar i ρ) fun x => mbind (f ρ) fun y => mbind (stp g x y) fun z => mret (.nx, ρ.set i (some z))
theorem sok_aug {i : Nat} {r2 : R2} {g : G2} {t : TE} {f : EF} (hg : OpV K r2 g) (h : EOk K E t f) : SOk K E (tAug i t r2) (sAug i g f) := fun w σ ρ ev s r e D P => by
  show ∃ x, σ[i]? = some (some x) ∧ t σ w.H fun y H1 => r2 x y H1 fun z H2 => D.nx (σ.set i (some z)) H2
  have e : mbind (mof (slotT ρ i)) (fun x => mbind (f ρ) fun y => mbind (stp g x y) fun z => mret (.nx, ρ.set i (some z))) w.μ = some r := e
  unfold mof at e
  unfold mbind at e
  cases hx : slotT ρ i with
  | none => rw [hx] at e; cases e
  | some x =>
    rw [hx] at e
    obtain ⟨v, h1, h2⟩ := ev.2 i x (slotT_some hx)
    refine ⟨v, h1, At.use (h w σ ρ ev) s e _ (fun y w1 u _ e1 x1 s1 hy => ?_) P.2⟩
    refine At.use (at_stp (E := E) hg (x1.t h2) hy) s1 e1 _ (fun z w2 v' _ e2 x2 s2 hz => ?_) fun a w' cls d z e' => P.2 a w' cls d z (x1.trans e')
    cases e2
    exact P.1 .nx _ w2 rfl (x1.trans x2) s2 _ (env_set (ev.ext (x1.trans x2)) i hz)
structure IpD (K : PySem.W.Frag) (X : Cx) (op : Operator) (r : R2) (g : G2) : Prop where
  op : OpR X (inplaceOp op) r
  ov : OpV K r g
theorem ipd_add : IpD K X .Add (qOr qAddI qAddS) gAdd := ⟨iop_add.or iop_add_str, (od_addI (X := X)).ov.or (od_addS (X := X)).ov⟩
theorem ipd_sub : IpD K X .Sub qSub (gI fun i j => .int (i - j)) := ⟨iop_sub, (od_sub (X := X)).ov⟩
theorem st_aug (i : Nat) {x : Str} {e : Expr} {t : TE} {f : EF} {op : Operator} {r : R2} {g : G2} {pos pos' : Pos} (ho : IpD K X op r g) (he : PD K X E e t f) (hN : X.N.Nodup) (hi : X.N[i]? = some x := by rfl) (hx : Loc X.env.scope x := by first | exact .inl rfl | exact .inr rfl)
    (hf : X.fn x = true ∨ X.env.scope.names.lookup x = some .local := by first | exact .inl rfl | exact .inr rfl) : PSt K X E (.AugAssign (.Name x pos') op e pos) (tAug i t r) (sAug i g f) := ⟨ps_aug hN hi hx he.pe ho.op hf, sok_aug ho.ov he.ok⟩
/-- xs[k] = e of a list that is a cell; d[k] = e of a dict that is one -/
def setL (μ : Mu) (x k v : T) : Option Mu := match lstC μ x, k with
  | some (n, ys), .d (.int i) => (ixN ys.length i).map fun j => μ.set n (.lst (ys.set j v))
  | _, _ => none
def putT (kvs : List (Key × T)) (k : Key) (v : T) : List (Key × T) := if (kvs.any fun kv => decide (kv.1 = k)) = true then kvs.map fun kv => if kv.1 = k then (kv.1, v) else kv else kvs ++ [(k, v)]
def setD (μ : Mu) (x k v : T) : Option Mu := match dctC μ x, keyOf k with
  | some (n, ys), some j => if ys.length < SL then some (μ.set n (.dct (putT ys j v))) else none
  | _, _ => none
def sPut (g : Mu → T → T → T → Option Mu) (fv fo fk : EF) : SF := fun ρ => mbind (fv ρ) fun v => mbind (fo ρ) fun x => mbind (fk ρ) fun k μ => match g μ x (rd μ k) v with
  | some μ' => some (.ok (.nx, ρ) μ')
  | none => none
theorem putT_ok {R : T → V → Prop} {k : Key} {x : T} {v : V} (hr : R x v) {xs : List (Key × T)} {vs : List (Key × V)} (h : Paired (fun p q => p.1 = q.1 ∧ R p.2 q.2) xs vs) : Paired (fun p q => p.1 = q.1 ∧ R p.2 q.2) (putT xs k x) (putK vs k v) := by
  have ha : (xs.any fun kv => decide (kv.1 = k)) = (vs.any fun kv => decide (kv.1 = k)) := by
    induction h with
    | nil => rfl
    | cons a b ih => rw [List.any_cons, List.any_cons, ih, a.1]
  unfold putT putK
  rw [ha]
  split
  · refine pd_map _ _ (fun a b q => ?_) h
    rw [q.1]
    split
    · exact ⟨rfl, hr⟩
    · exact q
  · exact pd_app h (.cons ⟨rfl, hr⟩ .nil)
theorem sok_setL {tv to tk : TE} {fv fo fk : EF} (hv : EOk K E tv fv) (ho : EOk K E to fo) (hk : EOk K E tk fk) : SOk K E (tAsg tv (gSub to tk rSetL)) (sPut setL fv fo fk) := fun w σ ρ ev s r e D P => by
  show tv σ w.H fun v H1 => to σ H1 fun o H2 => tk σ H2 fun i H3 => rSetL o i v H3 fun H4 => D.nx σ H4
  refine At.use (hv w σ ρ ev) s e _ (fun xv w1 v _ e1 x1 s1 hxv => ?_) P.2
  refine At.use (ho w1 σ ρ (ev.ext x1)) s1 e1 _ (fun xo w2 o _ e2 x2 s2 hxo => ?_) fun a w' cls d z e' => P.2 a w' cls d z (x1.trans e')
  refine At.use (hk w2 σ ρ ((ev.ext x1).ext x2)) s2 e2 _ (fun xk w3 i _ e3 x3 s3 hxk => ?_) fun a w' cls d z e' => P.2 a w' cls d z ((x1.trans x2).trans e')
  have e3 : (match setL w3.μ xo (rd w3.μ xk) xv with
    | some μ' => some (Rs.ok (Fl.nx, ρ) μ')
    | none => none) = some r := e3
  have hxk := rd_ok s3 hxk
  generalize rd w3.μ xk = yk at e3 hxk
  split at e3
  · rename_i μ' hμ
    cases e3
    unfold setL at hμ
    split at hμ
    · rename_i n ys j hl
      obtain ⟨m, hm, hm2⟩ := Option.map_eq_some_iff.mp hμ
      obtain ⟨a, vs, h1, h2, h3, h4, h5, h6⟩ := lstC_ok s3 (x3.t hxo) hl
      refine ⟨a, vs, j, m, h1, hxk, h5, by rw [← pd_len h6]; exact hm, ?_⟩
      obtain ⟨k1, k2⟩ := wr_ok s3 h2 h3 rfl (c' := .lst (ys.set m xv)) rfl (CellOk.lst_upd h4 (pd_set ((x2.trans x3).t hxv) m h6))
      exact P.1 .nx ρ _ (by rw [← hm2]) ((x1.trans (x2.trans x3)).trans k2) k1 σ ((ev.ext (x1.trans (x2.trans x3))).ext k2)
    · cases hμ
  · cases e3
theorem sok_setD {tv to tk : TE} {fv fo fk : EF} (hv : EOk K E tv fv) (ho : EOk K E to fo) (hk : EOk K E tk fk) : SOk K E (sDPut to tk tv) (sPut setD fv fo fk) := fun w σ ρ ev s r e D P => by
  show tv σ w.H fun v H1 => to σ H1 fun x H2 => tk σ H2 fun y H3 => ∃ a H4, x = .ref a ∧ DPut H3 a y v H4 ∧ D.nx σ H4
  refine At.use (hv w σ ρ ev) s e _ (fun xv w1 v _ e1 x1 s1 hxv => ?_) P.2
  refine At.use (ho w1 σ ρ (ev.ext x1)) s1 e1 _ (fun xo w2 o _ e2 x2 s2 hxo => ?_) fun a w' cls d z e' => P.2 a w' cls d z (x1.trans e')
  refine At.use (hk w2 σ ρ ((ev.ext x1).ext x2)) s2 e2 _ (fun xk w3 i _ e3 x3 s3 hxk => ?_) fun a w' cls d z e' => P.2 a w' cls d z ((x1.trans x2).trans e')
  have e3 : (match setD w3.μ xo (rd w3.μ xk) xv with
    | some μ' => some (Rs.ok (Fl.nx, ρ) μ')
    | none => none) = some r := e3
  have hxk := rd_ok s3 hxk
  generalize rd w3.μ xk = yk at e3 hxk
  split at e3
  · rename_i μ' hμ
    cases e3
    unfold setD at hμ
    split at hμ
    · rename_i n ys j hl hj
      split at hμ
      · rename_i hsz
        cases hμ
        obtain ⟨a, vs, h1, h2, h3, h4, h5, h6⟩ := dctC_ok s3 (x3.t hxo) hl
        have hkk := keyOf_ok hxk hj
        refine ⟨a, _, h1, by rw [hkk]; exact DPut.k h5 (by rw [← pd_len h6, sizeLine_eq]; exact hsz), ?_⟩
        obtain ⟨k1, k2⟩ := wr_ok s3 h2 h3 rfl (c' := .dct (putT ys j xv)) rfl (CellOk.dct_upd h4 (putT_ok ((x2.trans x3).t hxv) h6))
        exact P.1 .nx ρ _ rfl ((x1.trans (x2.trans x3)).trans k2) k1 σ ((ev.ext (x1.trans (x2.trans x3))).ext k2)
      · cases hμ
    · cases hμ
  · cases e3
section
variable {o i e : Expr} {pos pos' : Pos} {to tk tv : TE} {fo fk fv : EF}
theorem st_setL (hv : PD K X E e tv fv) (ho : PD K X E o to fo) (hk : PD K X E i tk fk) (hs : swapsWithSole [.Subscript o i pos'] e pos.line X.env = pure false := by rfl) (hw : swappedStores [.Subscript o i pos'] e X.env = pure none := by rfl) (h1 : (assignEach [.Subscript o i pos'] X.env).map (·.2) = [assign (.Subscript o i pos') X.env] := by rfl)
    (ha : ∀ v, assign (.Subscript o i pos') X.env v = (do
      let ov ← holding [v] (eval o X.env)
      let iv ← holding [v, ov] (eval i X.env)
      standAt pos'
      holding [v, ov, iv] (setItem ov iv v)
      release [v, ov, iv] []) := by intro _; rfl) : PSt K X E (.Assign [.Subscript o i pos'] e pos) (tAsg tv (gSub to tk rSetL)) (sPut setL fv fo fk) :=
  ⟨ps_asg hv.pe (pg_sub ho.pe hk.pe set_list ha) hs hw h1, sok_setL hv.ok ho.ok hk.ok⟩
theorem st_setD (hu : X.A.units + 1 < cLine) (hv : PD K X E e tv fv) (ho : PD K X E o to fo) (hk : PD K X E i tk fk) (hs : swapsWith e (some (.Subscript o i pos')) pos.line X.env = pure false := by rfl) : PSt K X E (.Assign [.Subscript o i pos'] e pos) (sDPut to tk tv) (sPut setD fv fo fk) :=
  ⟨ps_dput hu ho.pe hk.pe hv.pe hs, sok_setD hv.ok ho.ok hk.ok⟩
end

/-! ### freezing a name's cell -/
def fzAtN (μ : Mu) (n : Nat) : Option Mu := match μ[n]? with
  | some (.frz _) => some μ
  | some c => (c.data μ).map fun x => μ.set n (.frz x)
  | none => none
/-- the cell of the name i becomes data, ahead of f -/
def sFz (i : Nat) (f : SF) : SF := fun ρ μ => match slotT ρ i with
  | some (.p n) => match fzAtN μ n with
    | some μ' => f ρ μ'
    | none => none
  | _ => f ρ μ
theorem fz_cell {w : Wd} (s : StOk K w) {n : Nat} {a : Addr} {c : Cell} {x : D} (hA : w.A[n]? = some a) (hc : w.μ[n]? = some c) (hl : c.live = true) (hx : c.data w.μ = some x) : StOk K (w.fz a (w.μ.set n (.frz x))) ∧ Ext w (w.fz a (w.μ.set n (.frz x))) := by
  have hok := s.cell n a c hA hc
  obtain ⟨hF, oh, hH⟩ := hok.nn hl
  have hlt : n < w.μ.length := (List.getElem?_eq_some_iff.mp hc).1
  have sm := fz_same hF (w.μ.set n (.frz x))
  have inj : ∀ m, w.A[m]? = some a → m = n := fun m hm => by
    obtain ⟨h1, e1⟩ := List.getElem?_eq_some_iff.mp hm
    obtain ⟨h2, e2⟩ := List.getElem?_eq_some_iff.mp hA
    exact (List.getElem_inj s.nd).mp (e1.trans e2.symm)
  refine ⟨⟨fun b o' e => ?_, ?_, s.nd, s.tr, fun m b c2 h1 h2 => ?_⟩, ⟨sm, List.prefix_refl _, fun _ h => h, fun _ _ h _ => h, fun b h1 h2 h3 => ?_, fun b l h => ?_, fun b h _ => h⟩⟩
  · show w.H b = some o'
    have e : (if b = a then w.H a else w.F b) = some o' := e
    by_cases hb : b = a
    · rw [if_pos hb] at e; rw [hb]; exact e
    · rw [if_neg hb] at e; exact s.sub b o' e
  · show w.A.length = (w.μ.set n (.frz x)).length
    rw [List.length_set]
    exact s.len
  · have h2 : (w.μ.set n (.frz x))[m]? = some c2 := h2
    by_cases e : n = m
    · subst e
      rw [List.getElem?_set_self hlt] at h2
      cases h2
      have h1 : w.A[n]? = some b := h1
      rw [hA] at h1
      cases h1
      exact data_rep s hok hx hl _
    · rw [List.getElem?_set_ne e] at h2
      refine (s.cell m b c2 h1 h2).rep sm (List.prefix_refl _) (fun l => ?_) fun _ => rfl
      show (if b = a then w.H a else w.F b) = none
      rw [if_neg fun z => e (inj m (by rw [← z]; exact h1)).symm]
      exact ((s.cell m b c2 h1 h2).nn l).1
  · show (if b = a then w.H a else w.F b) = none
    rw [if_neg fun z => h3 ⟨n, c, by rw [z]; exact hA, hc, hl⟩]
    exact h1
  · obtain ⟨m, c2, h1, h2, h3⟩ := l
    have h2 : (w.μ.set n (.frz x))[m]? = some c2 := h2
    by_cases e : n = m
    · subst e
      rw [List.getElem?_set_self hlt] at h2
      cases h2
      cases h3
    · rw [List.getElem?_set_ne e] at h2
      exact ⟨m, c2, h1, h2, h3⟩
theorem sok_fz {i : Nat} {t : TS} {f : SF} (h : SOk K E t f) : SOk K E t (sFz i f) := fun w σ ρ ev s r e D P => by
  have plain : f ρ w.μ = some r → t D σ w.H := fun q => h w σ ρ ev s r q D P
  unfold sFz at e
  split at e
  · rename_i n hn
    split at e
    · rename_i μ' hμ
      unfold fzAtN at hμ
      split at hμ
      · cases hμ
        exact plain e
      · rename_i c hnf hc
        obtain ⟨x, hx, hx2⟩ := Option.map_eq_some_iff.mp hμ
        obtain ⟨v, h1, a, h2, h3⟩ := ev.2 i _ (slotT_some hn)
        have hl : c.live = true := by
          cases c with
          | frz y => exact absurd rfl (hnf y)
          | _ => rfl
        obtain ⟨k1, k2⟩ := fz_cell s h2 hc hl hx
        rw [← hx2] at e
        exact h (w.fz a (w.μ.set n (.frz x))) σ ρ (ev.ext k2) k1 r e D (P.from k2)
      · cases hμ
    · cases e
  · exact plain e
theorem bl_fz (i : Nat) {sts : List Stmt} {t : TS} {f : SF} (h : PBl K X E sts t f) : PBl K X E sts t (sFz i f) := ⟨h.pe, sok_fz h.ok⟩

/-! ### loops -/
/-- behind a turn -/
def turnS (k : Rho → M (Fl × Rho)) : Fl × Rho → M (Fl × Rho) := fun p => match p.1 with
  | .nx => k p.2
  | .ct => k p.2
  | .bk => mret (.nx, p.2)
  | .ret x => mret (.ret x, p.2)
def forL (g : GF) (b : SF) : List T → SF
  | [], ρ => mret (.nx, ρ)
  | x :: r, ρ => mbind (g x ρ) fun ρ1 => mbind (b ρ1) (turnS (forL g b r))
def sFor (it : AF) (g : GF) (b : SF) : SF := fun ρ => mbind (it ρ) fun xs => forL g b xs ρ
theorem turn_ok {w : Wd} {W : Wd} {σ : L2.St} {ρ : Rho} {t : TS} {b : SF} {k : Rho → M (Fl × Rho)} {D : Ends} {N : L2.St → Hp → Prop} {r : Rs (Fl × Rho)} (h : SOk K E t b) (ev : EnvOk K w σ ρ) (s : StOk K w) (ex : Ext W w) (e : mbind (b ρ) (turnS k) w.μ = some r) (P : SPost K E W D r)
    (hN : ∀ w' σ' ρ', Ext w w' → StOk K w' → EnvOk K w' σ' ρ' → k ρ' w'.μ = some r → N σ' w'.H) : t { D with nx := N, ct := N, bk := D.nx } σ w.H := by
  unfold mbind at e
  cases hb : b ρ w.μ with
  | none => rw [hb] at e; cases e
  | some r1 =>
    rw [hb] at e
    cases r1 with
    | ex x μ1 =>
      cases e
      exact h w σ ρ ev s _ hb _ ⟨(fun fl ρ' w' z => by cases z), fun x w' cls d z e1 => by cases z; exact P.2 _ w' cls d rfl (ex.trans e1)⟩
    | ok p μ1 =>
      obtain ⟨fl, ρ1⟩ := p
      refine h w σ ρ ev s _ hb _ ⟨fun fl' ρ' w' z e1 s1 => ?_, fun _ _ _ _ z => by cases z⟩
      cases z
      cases fl with
      | nx => exact fun σ' hσ => hN w' σ' ρ1 e1 s1 hσ e
      | ct => exact fun σ' hσ => hN w' σ' ρ1 e1 s1 hσ e
      | bk => cases e; exact P.1 .nx ρ1 w' rfl (ex.trans e1) s1
      | ret x => cases e; exact P.1 (.ret x) ρ1 w' rfl (ex.trans e1) s1
theorem sok_for {is : List Nat} {wi : TI} {g : TG} {tb : TS} {it : AF} {gf : GF} {b : SF} (hi : IOk K E wi it) (hg : GOk K is g gf) (hgn : GNo gf) (hb : SOk K E tb b) : SOk K E (tFor wi g tb) (sFor it gf b) := fun w σ ρ ev s r er D P => by
  have er : mbind (it ρ) (fun xs => forL gf b xs ρ) w.μ = some r := er
  unfold mbind at er
  cases hf : it ρ w.μ with
  | none => rw [hf] at er; cases er
  | some r1 =>
    rw [hf] at er
    cases r1 with
    | ex y μ1 =>
      cases er
      exact hi w σ ρ ev s _ hf _ (fun _ _ z => by cases z) fun x w' cls d z => by cases z; exact P.2 _ w' cls d rfl
    | ok xs μ1 =>
      refine hi w σ ρ ev s _ hf _ (fun xs' w' z e1 s1 J G Y wk yl => ?_) fun _ _ _ _ z => by cases z
      cases z
      have er : forL gf b xs ρ w'.μ = some r := er
      refine for_it wk (fun i σ1 H => ∃ (w1 : Wd) (ρ1 : Rho), w1.H = H ∧ Ext w' w1 ∧ StOk K w1 ∧ EnvOk K w1 σ1 ρ1 ∧ forL gf b (xs.drop i) ρ1 w1.μ = some r) ⟨w', ρ, rfl, Ext.refl _, s1, ev.ext e1, er⟩ ?_ ?_ ?_
      · rintro i σ1 H _ ⟨w1, ρ1, rfl, h1, h2, _⟩
        exact (yl w1 h1 h2).1
      · rintro i x σ1 H H' hlt ⟨w1, ρ1, rfl, h1, h2, h3, h4⟩ y
        obtain ⟨w2, t, rfl, hμ, e2, s2, hx, hr⟩ := (yl w1 h1 h2).2 i x H' hlt y
        have hdrop : xs.drop i = t :: xs.drop (i + 1) := by
          obtain ⟨hl, e⟩ := List.getElem?_eq_some_iff.mp hx
          rw [List.drop_eq_getElem_cons hl, e]
        rw [hdrop, ← hμ] at h4
        have h4 : mbind (gf t ρ1) (fun ρ2 => mbind (b ρ2) (turnS (forL gf b (xs.drop (i + 1))))) w2.μ = some r := h4
        unfold mbind at h4
        cases hgf : gf t ρ1 w2.μ with
        | none => rw [hgf] at h4; cases h4
        | some rg =>
          obtain ⟨ρ2, hρ⟩ := hgn _ _ _ _ hgf
          cases hρ
          rw [hgf] at h4
          refine hg w2 σ1 ρ1 t x ρ2 (h3.ext e2) s2 hr hgf _ fun σ2 hσ2 _ => ?_
          refine turn_ok hb hσ2 s2 (e1.trans (h1.trans e2)) h4 P fun w3 σ3 ρ3 e3 s3 hσ3 h5 => ⟨w3, ρ3, rfl, h1.trans (e2.trans e3), s3, hσ3, h5⟩
      · rintro σ1 H ⟨w1, ρ1, rfl, h1, h2, h3, h4⟩
        rw [List.drop_length] at h4
        cases h4
        exact P.1 .nx ρ1 w1 rfl (e1.trans h1) h2 σ1 h3
theorem st_for {tg iter : Expr} {body : List Stmt} {is : List Nat} {wi : TI} {g : TG} {tb : TS} {it : AF} {gf : GF} {b : SF} {pos : Pos} (hp : PassesOwn (model X.prog X.w) X.A X.env X.xe) (hc : X.calm = true) (hi : PIt K X E tg iter wi it) (hg : PGt K X is tg g gf) (hb : PBl K X E body tb b) (hs : ∀ x, foldedSetIterable iter X.env x = pure x := by intro _; rfl) :
    PSt K X E (.For tg iter body [] pos) (tFor wi g tb) (sFor it gf b) := ⟨ps_for hp hc hi.pe hg.pe hb.pe hs, sok_for hi.ok hg.ok hg.no hb.ok⟩
def whileN (c : TF) (b : SF) : Nat → SF
  | 0 => fun _ _ => none
  | n + 1 => fun ρ => mbind (c ρ) fun t => if t = true then mbind (b ρ) (turnS (whileN c b n)) else mret (.nx, ρ)
open Classical in
noncomputable def sWhile (c : TF) (b : SF) : SF := fun ρ μ => if h : ∃ p : Nat × Rs (Fl × Rho), whileN c b p.1 ρ μ = some p.2 then some (Classical.choose h).2 else none
theorem sWhile_some {c : TF} {b : SF} {ρ : Rho} {μ : Mu} {r : Rs (Fl × Rho)} (h : sWhile c b ρ μ = some r) : ∃ n, whileN c b n ρ μ = some r := by
  unfold sWhile at h
  split at h
  · rename_i hh
    cases h
    exact ⟨_, Classical.choose_spec hh⟩
  · cases h
theorem whileN_mono {c : TF} {b : SF} : ∀ {n m : Nat} {ρ : Rho} {μ : Mu} {r : Rs (Fl × Rho)}, whileN c b n ρ μ = some r → n ≤ m → whileN c b m ρ μ = some r
  | 0, _, _, _, _, h, _ => by cases h
  | n + 1, 0, _, _, _, _, l => by omega
  | n + 1, m + 1, ρ, μ, r, h, l => by
    have h : mbind (c ρ) (fun t => if t = true then mbind (b ρ) (turnS (whileN c b n)) else mret (.nx, ρ)) μ = some r := h
    show mbind (c ρ) (fun t => if t = true then mbind (b ρ) (turnS (whileN c b m)) else mret (.nx, ρ)) μ = some r
    unfold mbind at h ⊢
    cases h1 : c ρ μ with
    | none => rw [h1] at h; cases h
    | some r1 =>
      rw [h1] at h
      cases r1 with
      | ex x μ1 => exact h
      | ok t μ1 =>
        cases t with
        | false => exact h
        | true =>
          have h : mbind (b ρ) (turnS (whileN c b n)) μ1 = some r := h
          show mbind (b ρ) (turnS (whileN c b m)) μ1 = some r
          unfold mbind at h ⊢
          cases h2 : b ρ μ1 with
          | none => rw [h2] at h; cases h
          | some r2 =>
            rw [h2] at h
            cases r2 with
            | ex x μ2 => exact h
            | ok p μ2 =>
              obtain ⟨fl, ρ2⟩ := p
              cases fl with
              | nx => exact whileN_mono (n := n) (m := m) h (by omega)
              | ct => exact whileN_mono (n := n) (m := m) h (by omega)
              | bk => exact h
              | ret x => exact h
theorem sWhile_of {c : TF} {b : SF} {ρ : Rho} {μ : Mu} {r : Rs (Fl × Rho)} {n : Nat} (h : whileN c b n ρ μ = some r) : sWhile c b ρ μ = some r := by
  have hh : ∃ p : Nat × Rs (Fl × Rho), whileN c b p.1 ρ μ = some p.2 := ⟨(n, r), h⟩
  unfold sWhile
  rw [dif_pos hh]
  have q := Classical.choose_spec hh
  have q1 := whileN_mono q (Nat.le_max_left _ n)
  have q2 := whileN_mono h (Nat.le_max_right (Classical.choose hh).1 n)
  exact q1.symm.trans q2
theorem sok_while {tc : TT} {tb : TS} {c : TF} {b : SF} (hc : BOk K E tc c) (hb : SOk K E tb b) : SOk K E (tWhile tc tb) (sWhile c b) := fun w σ ρ ev s r er D P => by
  obtain ⟨n, hn⟩ := sWhile_some er
  refine ⟨fun m σ1 H => ∃ (w1 : Wd) (ρ1 : Rho), w1.H = H ∧ Ext w w1 ∧ StOk K w1 ∧ EnvOk K w1 σ1 ρ1 ∧ whileN c b m ρ1 w1.μ = some r, ⟨n, w, ρ, rfl, Ext.refl w, s, ev, hn⟩, ?_⟩
  rintro m σ1 H ⟨w1, ρ1, rfl, h1, h2, h3, h4⟩
  cases m with
  | zero => cases h4
  | succ m =>
    have h4 : mbind (c ρ1) (fun t => if t = true then mbind (b ρ1) (turnS (whileN c b m)) else mret (.nx, ρ1)) w1.μ = some r := h4
    refine At.use (hc w1 σ1 ρ1 h3) h2 h4 _ (fun t w2 t' _ e2 x2 s2 ht => ?_) fun a w' cls d z e' => P.2 a w' cls d z (h1.trans e')
    cases ht
    cases t with
    | false =>
      cases e2
      exact P.1 .nx ρ1 w2 rfl (h1.trans x2) s2 σ1 (h3.ext x2)
    | true =>
      refine ⟨fun σ' H' => ∃ (w1 : Wd) (ρ1 : Rho), w1.H = H' ∧ Ext w w1 ∧ StOk K w1 ∧ EnvOk K w1 σ' ρ1 ∧ whileN c b m ρ1 w1.μ = some r, fun σ' H' h => ⟨m, Nat.lt_succ_self m, h⟩, ?_⟩
      exact turn_ok hb (h3.ext x2) s2 (h1.trans x2) e2 P fun w3 σ3 ρ3 e3 s3 hσ3 h5 => ⟨w3, ρ3, rfl, (h1.trans x2).trans e3, s3, hσ3, h5⟩
theorem st_while {c : Expr} {body : List Stmt} {tc : TT} {tb : TS} {fc : TF} {b : SF} {pos : Pos} (hp : PassesOwn (model X.prog X.w) X.A X.env X.xe) (hc : PB K X E c tc fc) (hb : PBl K X E body tb b) : PSt K X E (.While c body [] pos) (tWhile tc tb) (sWhile fc b) :=
  ⟨ps_while hp hc.pe hb.pe, sok_while hc.ok hb.ok⟩
end
end Fm
set_option Elab.async false
set_option linter.all false
set_option maxRecDepth 100000
namespace Fm
open PySem L2 PySem.Spec PyProof.Rows

/-! ### a def's end: its own cells are let go where nothing else knows them -/
def T.lt (k : Nat) : T → Prop
  | .d _ => True
  | .p n => n < k
def Cell.lt (k : Nat) : Cell → Prop
  | .lst xs => ∀ x ∈ xs, T.lt k x
  | .dct kvs => ∀ p ∈ kvs, T.lt k p.2
  | .dcu kvs => ∀ p ∈ kvs, T.lt k p.2
  | .obj _ fs => ∀ p ∈ fs, T.lt k p.2
  | .frz _ => True
def FinC (μ0 μ' : Mu) (x : T) : Prop := x.lt μ0.length ∧ ∀ (m : Nat) (c : Cell), m < μ0.length → μ'[m]? = some c → μ0[m]? = some c ∨ c.lt μ0.length
open Classical in
noncomputable def finMu (μ0 μ' : Mu) (x : T) : Mu := if FinC μ0 μ' x then μ'.take μ0.length else μ'
noncomputable def fnB (N : Nat) (body : SF) : FN := fun xs μ => match body (xs.map some ++ List.replicate (N - xs.length) none) μ with
  | some (.ok (.nx, _) μ') => some (.ok (.d .non) (finMu μ μ' (.d .non)))
  | some (.ok (.ret x, _) μ') => some (.ok x (finMu μ μ' x))
  | some (.ex e μ') => some (.ex e (finMu μ μ' (.d .non)))
  | _ => none
section
variable {K : PySem.W.Frag}
theorem RepT.lt {F : Hp} {A : List Addr} {x : T} {v : V} (h : RepT K F A x v) : x.lt A.length := by
  cases x with
  | d => trivial
  | p n =>
    obtain ⟨a, h1, _⟩ := h
    exact (List.getElem?_eq_some_iff.mp h1).1
theorem pd_mem {α β : Type} {R : α → β → Prop} : ∀ {l : List α} {m : List β} {a : α}, Paired R l m → a ∈ l → ∃ b, R a b
  | _, _, a, .nil, h => by cases h
  | _, _, a, .cons r t, h => by
    rcases List.mem_cons.mp h with e | e
    · subst e; exact ⟨_, r⟩
    · exact pd_mem t e
theorem CellOk.lt {w : Wd} {b : Addr} {c : Cell} (h : CellOk K w b c) : c.lt w.A.length := by
  cases c with
  | frz => trivial
  | lst xs => obtain ⟨_, vs, _, h2⟩ := h; exact fun x hx => let ⟨v, q⟩ := pd_mem h2 hx; q.lt
  | dct xs => obtain ⟨_, vs, _, h2⟩ := h; exact fun x hx => let ⟨v, q⟩ := pd_mem h2 hx; q.2.lt
  | dcu xs => obtain ⟨_, vs, _, h2⟩ := h; exact fun x hx => let ⟨v, q⟩ := pd_mem h2 hx; q.2.lt
  | obj c xs => obtain ⟨_, _, vs, _, _, _, h2⟩ := h; exact fun x hx => let ⟨v, q⟩ := pd_mem h2 hx; q.2.lt
theorem RepT.cut {F : Hp} {A : List Addr} {k : Nat} {x : T} {v : V} (h : RepT K F A x v) (l : x.lt k) : RepT K F (A.take k) x v := by
  cases x with
  | d => exact h
  | p n =>
    obtain ⟨a, h1, h2⟩ := h
    exact ⟨a, by rw [List.getElem?_take_of_lt l]; exact h1, h2⟩
theorem pd_with {α β : Type} {R S : α → β → Prop} : ∀ {l : List α} {m : List β}, Paired R l m → (∀ a ∈ l, ∀ b, R a b → S a b) → Paired S l m
  | _, _, .nil, _ => .nil
  | _, _, .cons r t, h => .cons (h _ List.mem_cons_self _ r) (pd_with t fun a ha => h a (List.mem_cons_of_mem _ ha))
def Wd.cut (w : Wd) (k : Nat) : Wd := { w with A := w.A.take k, μ := w.μ.take k }
theorem CellOk.cut {w : Wd} {b : Addr} {c : Cell} {k : Nat} (h : CellOk K w b c) (l : c.lt k) : CellOk K (w.cut k) b c := by
  cases c with
  | frz => exact h
  | lst xs => obtain ⟨h0, vs, h1, h2⟩ := h; exact ⟨h0, vs, h1, pd_with h2 fun a ha b r => RepT.cut r (l a ha)⟩
  | dct xs => obtain ⟨h0, vs, h1, h2⟩ := h; exact ⟨h0, vs, h1, pd_with h2 fun a ha b r => ⟨r.1, RepT.cut r.2 (l a ha)⟩⟩
  | dcu xs => obtain ⟨h0, vs, h1, h2⟩ := h; exact ⟨h0, vs, h1, pd_with h2 fun a ha b r => ⟨r.1, RepT.cut r.2 (l a ha)⟩⟩
  | obj c xs => obtain ⟨h0, dx, vs, C, hC, h1, h2⟩ := h; exact ⟨h0, dx, vs, C, hC, h1, pd_with h2 fun a ha b r => ⟨r.1, RepT.cut r.2 (l a ha)⟩⟩
theorem cut_ok {w w' : Wd} {x : T} (s : StOk K w) (e : Ext w w') (s' : StOk K w') (h : FinC w.μ w'.μ x) : StOk K (w'.cut w.μ.length) ∧ Ext w (w'.cut w.μ.length) := by
  have hle : w.A.length ≤ w'.A.length := e.pre.length_le
  refine ⟨⟨s'.sub, ?_, (List.take_sublist _ _).nodup s'.nd, fun b hb => s'.tr b (List.mem_of_mem_take hb), fun n b c h1 h2 => ?_⟩, ⟨e.sub, ?_, e.dom, e.keep, e.capt, fun b l => ?_, fun b hb => e.new b (List.mem_of_mem_take hb)⟩⟩
  · show (w'.A.take _).length = (w'.μ.take _).length
    rw [List.length_take, List.length_take, s'.len]
  · have h1 : (w'.A.take w.μ.length)[n]? = some b := h1
    have h2 : (w'.μ.take w.μ.length)[n]? = some c := h2
    have hn : n < w.μ.length := by
      have := (List.getElem?_eq_some_iff.mp h1).1
      rw [List.length_take] at this
      omega
    rw [List.getElem?_take_of_lt hn] at h1 h2
    refine (s'.cell n b c h1 h2).cut ?_
    rcases h.2 n c hn h2 with q | q
    · obtain ⟨a, ha⟩ : ∃ a, w.A[n]? = some a := ⟨w.A[n]'(by rw [s.len]; exact hn), List.getElem?_eq_getElem _⟩
      have := (s.cell n a c ha q).lt
      rw [s.len] at this
      exact this
    · exact q
  · show w.A <+: w'.A.take w.μ.length
    rw [← s.len]
    obtain ⟨r, hr⟩ := e.pre
    rw [← hr, List.take_left]
    exact List.prefix_refl _
  · obtain ⟨n, c, h1, h2, h3⟩ := l
    have h1 : (w'.A.take w.μ.length)[n]? = some b := h1
    have h2 : (w'.μ.take w.μ.length)[n]? = some c := h2
    have hn : n < w.μ.length := by
      have := (List.getElem?_eq_some_iff.mp h1).1
      rw [List.length_take] at this
      omega
    rw [List.getElem?_take_of_lt hn] at h1 h2
    exact e.lv b ⟨n, c, h1, h2, h3⟩
theorem fin_ok {w w' : Wd} {x : T} (s : StOk K w) (e : Ext w w') (s' : StOk K w') : ∃ w2, w2.H = w'.H ∧ w2.F = w'.F ∧ w2.μ = finMu w.μ w'.μ x ∧ Ext w w2 ∧ StOk K w2 ∧ ∀ v, w'.t K x v → w2.t K x v := by
  unfold finMu
  by_cases h : FinC w.μ w'.μ x
  · rw [if_pos h]
    obtain ⟨h1, h2⟩ := cut_ok s e s' h
    exact ⟨w'.cut w.μ.length, rfl, rfl, rfl, h2, h1, fun v q => RepT.cut q h.1⟩
  · rw [if_neg h]
    exact ⟨w', rfl, rfl, rfl, e, s', fun _ q => q⟩
/-- a body whose own cells end with it -/
theorem finMu_eq {μ0 μ' : Mu} {x : T} (h : FinC μ0 μ' x) : finMu μ0 μ' x = μ'.take μ0.length := by unfold finMu; rw [if_pos h]
theorem finMu_app {μ z : Mu} {x : D} : finMu μ (μ ++ z) (.d x) = μ := by
  rw [finMu_eq (x := .d x) ⟨show T.lt _ (T.d x) from trivial, fun m c hm hc => .inl (by rw [List.getElem?_append_left hm] at hc; exact hc)⟩, List.take_left]
@[simp] theorem finMu_self {μ : Mu} {x : D} : finMu μ μ (.d x) = μ := by
  have q := finMu_app (μ := μ) (z := []) (x := x)
  rwa [List.append_nil] at q
theorem finMu_set {μ z : Mu} {x : D} {b : Nat} {c : Cell} (hc : ∀ k, c.lt k) : finMu μ (μ.set b c ++ z) (.d x) = μ.set b c := by
  rw [finMu_eq (x := .d x) ⟨show T.lt _ (T.d x) from trivial, fun m c' hm hc' => ?_⟩]
  · rw [show μ.length = (μ.set b c).length by rw [List.length_set], List.take_left]
  · rw [List.getElem?_append_left (by rw [List.length_set]; exact hm)] at hc'
    by_cases e : b = m
    · subst e
      rw [List.getElem?_set_self hm] at hc'
      cases hc'
      exact .inr (hc _)
    · rw [List.getElem?_set_ne e] at hc'
      exact .inl hc'
theorem finMu_set0 {μ : Mu} {x : D} {b : Nat} {c : Cell} (hc : ∀ k, c.lt k) : finMu μ (μ.set b c) (.d x) = μ.set b c := by
  have q := finMu_set (μ := μ) (z := []) (x := x) (b := b) hc
  rwa [List.append_nil] at q
/-- the slots at a def's entry -/
theorem start_ok {w : Wd} {N : List Str} {xs : List T} {vs : List V} (h : Paired (w.t K) xs vs) : EnvOk K w (L2.start N vs) (xs.map some ++ List.replicate (N.length - xs.length) none) := by
  unfold L2.start
  refine ⟨by rw [List.length_append, List.length_append, List.length_map, List.length_map, List.length_replicate, List.length_replicate, pd_len h], fun i x hx => ?_⟩
  by_cases hi : i < xs.length
  · rw [List.getElem?_append_left (by rw [List.length_map]; exact hi), List.getElem?_map] at hx
    obtain ⟨y, h1, h2⟩ := Option.map_eq_some_iff.mp hx
    cases h2
    obtain ⟨v, h3, h4⟩ := pd_get h h1
    refine ⟨v, ?_, h4⟩
    rw [List.getElem?_append_left (by rw [List.length_map, ← pd_len h]; exact hi), List.getElem?_map, h3]
    rfl
  · rw [List.getElem?_append_right (by rw [List.length_map]; omega), List.getElem?_replicate] at hx
    split at hx <;> cases hx
variable {P : Program} {w : World} {mg : Str → Option Value} {base : Heap}
/-- what stands around a def's body -/
structure BdS (X : Cx) (E : XK) (k : Nat) : Prop extends Bd X E k where
  tk : Takes X (fun cls d _ H => E cls d H)
  own : PassesOwn (model X.prog X.w) X.A X.env X.xe
/-- THE RULE for a def -/
theorem okF {x qual : Str} {st : Stmt} {f : Addr} {fd : FuncData} {N ps : List Str} {k : Nat} {body : SF} (F : L2.Fun K x qual st f fd) (S : FnScope N ps (defScope st)) 
    (hbody : ∀ (cdv : Value) (A : Around) (outer : List Env) (s : Shared) (H : Hp) (E : XK), BdS (cxOf (L2.CX P w) P w K mg base N qual (defScope st) f cdv A outer s H E) E k → ∃ t, PBl K (cxOf (L2.CX P w) P w K mg base N qual (defScope st) f cdv A outer s H E) E (defBody st) t body) :
    FnOk P w K mg base (L2.CX P w) (k + 1) f fd ps (spM K ps.length (fnB N.length body)) := by
  refine F.okX S (fun vs H Q E h => h.1) fun cdv A outer s H vs Q E hr hsp => ?_
  obtain ⟨hl, w0, xs, r, rfl, s0, hx, hf, h1, h2⟩ := hsp
  obtain ⟨t, ht⟩ := hbody cdv A outer s w0.H E ⟨⟨hr, passes_call (takes_of rfl rfl rfl rfl) fun _ _ _ _ h => h, rfl⟩, takes_of rfl rfl rfl rfl, passes_of rfl⟩
  refine ⟨t, ht.pe, ?_⟩
  unfold fnB at hf
  have ev := start_ok (N := N) hx
  split at hf
  · rename_i ρ' μ' hq
    cases hf
    refine ht.ok w0 _ _ ev s0 _ hq _ ⟨fun fl ρ2 w' z e1 s1 => ?_, fun _ _ _ _ z => by cases z⟩
    cases z
    intro σ' _
    obtain ⟨w2, q1, q2, q3, q4, q5, q6⟩ := fin_ok (x := .d .non) s0 e1 s1
    show Q .non w'.H
    rw [← q1]
    exact h1 (.d .non) w2 .non (by rw [q3]) q4 q5 rfl
  · rename_i y ρ' μ' hq
    cases hf
    refine ht.ok w0 _ _ ev s0 _ hq _ ⟨fun fl ρ2 w' z e1 s1 => ?_, fun _ _ _ _ z => by cases z⟩
    cases z
    intro v hv
    obtain ⟨w2, q1, q2, q3, q4, q5, q6⟩ := fin_ok (x := y) s0 e1 s1
    show Q v w'.H
    rw [← q1]
    exact h1 y w2 v (by rw [q3]) q4 q5 (q6 v hv)
  · rename_i y μ' hq
    cases hf
    refine ht.ok w0 _ _ ev s0 _ hq _ ⟨(fun fl ρ2 w' z => by cases z), fun y' w' cls d z e1 s1 hex => ?_⟩
    cases z
    obtain ⟨w2, q1, q2, q3, q4, q5, q6⟩ := fin_ok (x := .d .non) s0 e1 s1
    rw [← q1]
    refine h2 _ w2 cls d (by rw [q3]) q4 q5 ?_
    unfold ExnOk at hex ⊢
    rw [q2]
    exact hex
  · cases hf
theorem okM {x qual : Str} {st : Stmt} {f : Addr} {fd : FuncData} {N ps : List Str} {k : Nat} {body : SF} (F : L2.Fun K x qual st f fd) (S : FnScope N ps (defScope st)) (hm : mg x = some (.ref f)) (hb : Binds K fd ps [])
    (hbody : ∀ (cdv : Value) (A : Around) (outer : List Env) (s : Shared) (H : Hp) (E : XK), BdS (cxOf (L2.CX P w) P w K mg base N qual (defScope st) f cdv A outer s H E) E k → ∃ t, PBl K (cxOf (L2.CX P w) P w K mg base N qual (defScope st) f cdv A outer s H E) E (defBody st) t body) :
    Fn P w K mg base (k + 1) x ps.length (fnB N.length body) := ⟨f, fd, ps, okF F S hbody, hm, F.kp, hb, rfl⟩
/-- the ground of a recursion: nothing can be asked -/
theorem okM0 {x qual : Str} {st : Stmt} {f : Addr} {fd : FuncData} {ps : List Str} {k : Nat} (F : L2.Fun K x qual st f fd) (hm : mg x = some (.ref f)) (hb : Binds K fd ps []) : Fn P w K mg base k x ps.length (fun _ _ => none) := by
  refine ⟨f, fd, ps, ⟨fun vs H Q E h => h.1, fun A outer s H args us vs Q E _ _ _ _ h => ?_⟩, hm, F.kp, hb, rfl⟩
  obtain ⟨_, w0, xs, r, _, _, _, hf, _⟩ := h
  cases hf
/-- law(script): what the row asks, by the def's function -/
theorem sp_law {fn : FN} (h : ∀ ns : List Int, ns.length ≤ 63 → ∃ μ, fn [.d (.kl ns)] [] = some (.ok (.d (.bl true)) μ)) {H : Hp} {a : Addr} {ns : List Int} (hl : ns.length ≤ 63) (hS : SqL K H a (ns.map V.int)) :
    spM K 1 fn [.ref a] H (fun v _ => v = .bl true) (fun _ _ _ => False) := by
  obtain ⟨μ, hμ⟩ := h ns hl
  refine ⟨rfl, ⟨H, H, [], []⟩, [.d (.kl ns)], _, rfl, ⟨Same.refl _, rfl, List.nodup_nil, fun b h => (nomatch h), fun n b c h => by simp at h⟩, .cons ⟨a, rfl, hS⟩ .nil, hμ, fun x w' v z _ _ hv => ?_, fun _ _ _ _ z => by cases z⟩
  cases z
  exact hv
end
end Fm
set_option Elab.async false
set_option linter.all false
set_option maxRecDepth 100000
namespace Fm
open PySem L2 PySem.Spec PyProof.Rows
section
variable {X : Cx} {E : XK} {K : PySem.W.Frag}
/-! ### constants of the module -/
def gci (n : Int) : EF := eC (.int n)
theorem pd_gi {x : Str} {n : Int} {pos : Pos} (hm : ∃ t, X.mg x = some (.int n t)) (hg : Gl X x := by rfl) (hd : (x == ("__debug__" : Str)) = false := by decide) : PD K X E (.Name x pos) (tC (.int n)) (eC (.int n)) := by
  obtain ⟨t, ht⟩ := hm
  exact ⟨pe_glob hg ht ⟨_, rfl⟩ hd, eok_c fun _ => rfl⟩
theorem pd_gs {x : Str} {n : Str} {pos : Pos} (hm : ∃ t, X.mg x = some (.str n t)) (hg : Gl X x := by rfl) (hd : (x == ("__debug__" : Str)) = false := by decide) : PD K X E (.Name x pos) (tC (.str n)) (eC (.str n)) := by
  obtain ⟨t, ht⟩ := hm
  exact ⟨pe_glob hg ht ⟨_, rfl⟩ hd, eok_c fun _ => rfl⟩
/-! ### -a -/
def negT (x : T) : Option T := match x with
  | .d (.int i) => some (.d (.int (-i)))
  | _ => none
def eNeg (f : EF) : EF := fun ρ => mbind (f ρ) fun x μ => mof (negT (rd μ x)) μ
theorem pd_neg {a : Expr} {ta : TE} {fa : EF} {pos : Pos} (ha : PD K X E a ta fa) : PD K X E (.UnaryOp .USub a pos) (tUn (rU fun i => .int (-i)) ta) (eNeg fa) := by
  refine ⟨pe_un un_neg ha.pe, fun w σ ρ ev => ?_⟩
  show At K E w (fun Q => ta σ w.H fun x H1 => rU (fun i => .int (-i)) x H1 Q) _ _
  refine At.bind rv_m (ha.ok w σ ρ ev) fun x v w1 e1 s1 hx => ?_
  have q := At.pure (K := K) (E := E) (w := w1) (t := rU (fun i => .int (-i)) v w1.H) (o := negT (rd w1.μ x)) (R := RV K) fun s b hb => by
    have hx := rd_ok s hx
    generalize rd w1.μ x = y at hb hx
    unfold negT at hb
    split at hb
    · rename_i i
      cases hb
      exact ⟨.int (-i), rfl, fun Q q => ⟨i, hx, q⟩⟩
    · cases hb
  exact q
/-! ### xs + ys of lists -/
def catC (μ : Mu) (x y : T) : Option Cell := match lstTr μ x, lstTr μ y with
  | some xs, some ys => if xs.length + ys.length ≤ SL then some (.lst (xs ++ ys)) else none
  | _, _ => none
def cCat (fa fb : EF) : CF := fun ρ => mbind (fa ρ) fun x => mbind (fb ρ) fun y μ => mof (catC μ (rd μ x) (rd μ y)) μ
theorem pc_cat {a b : Expr} {ta tb : TE} {fa fb : EF} {pos : Pos} (ha : PD K X E a ta fa) (hb : PD K X E b tb fb) : PCr K X E (.BinOp a .Add b pos) (tOp rCat ta tb) (cCat fa fb) := by
  refine ⟨pe_op op_cat ha.pe hb.pe, fun w σ ρ ev => ?_⟩
  show At K E w (fun Q => ta σ w.H fun x H1 => tb σ H1 fun y H2 => rCat x y H2 Q) _ _
  refine At.bind rc_m (ha.ok w σ ρ ev) fun x v w1 e1 s1 hx => At.bind rc_m (hb.ok w1 σ ρ (ev.ext e1)) fun y u w2 e2 s2 hy => ?_
  have q := at_new (K := K) (E := E) (w := w2) (t := rCat v u w2.H) (o := catC w2.μ (rd w2.μ x) (rd w2.μ y)) fun s c hc => by
    unfold catC at hc
    split at hc
    · rename_i xs ys h1 h2
      split at hc
      · rename_i hl
        cases hc
        obtain ⟨a, vs, a1, a2, a3⟩ := lstTr_ok s (rd_ok s (e2.t hx)) h1
        obtain ⟨b, us, b1, b2, b3⟩ := lstTr_ok s (rd_ok s hy) h2
        exact ⟨.lst (vs ++ us), pd_app a3 b3, fun Q q => ⟨a, b, vs, us, a1, b1, a2, b2, by rw [← pd_len a3, ← pd_len b3]; exact le_SL hl, q⟩⟩
      · cases hc
    · cases hc
  exact q
/-! ### {k: v, ..} -/
def RP (K : PySem.W.Frag) : RT (List (T × T)) (List (V × V)) := fun _ w' xs vs => Paired (fun a b => w'.t K a.1 b.1 ∧ w'.t K a.2 b.2) xs vs
abbrev PF := Rho → M (List (T × T))
def ppN : PF := fun _ => mret []
def ppC (k v : EF) (r : PF) : PF := fun ρ => mbind (k ρ) fun x => mbind (v ρ) fun y => mbind (r ρ) fun ps => mret ((x, y) :: ps)
structure PPd (K : PySem.W.Frag) (X : Cx) (E : XK) (pos : Pos) (keys : List (Option Expr)) (values : List Expr) (trs : List (TE × TE)) (f : PF) : Prop where
  pe : PPs X pos keys values trs
  ok : ∀ w σ ρ, EnvOk K w σ ρ → At K E w (tPairs trs σ w.H) (f ρ) (RP K)
theorem pps_n {pos : Pos} : PPd K X E pos [] [] [] ppN := ⟨pps_nil, fun w σ ρ _ => At.ret (R := RP K) .nil⟩
theorem rp_m : ∀ w w1 w2 a b, Ext w w1 → RP K w1 w2 a b → RP K w w2 a b := fun _ _ _ _ _ _ h => h
theorem pps_c {pos : Pos} {k v : Expr} {ks : List (Option Expr)} {vs : List Expr} {tk tv : TE} {trs : List (TE × TE)} {fk fv : EF} {r : PF} (hk : PD K X E k tk fk) (hv : PD K X E v tv fv) (hr : PPd K X E pos ks vs trs r) : PPd K X E pos (some k :: ks) (v :: vs) ((tk, tv) :: trs) (ppC fk fv r) := by
  refine ⟨pps_cons hk.pe hv.pe hr.pe, fun w σ ρ ev => ?_⟩
  show At K E w (fun Q => tk σ w.H fun x H1 => tv σ H1 fun y H2 => tPairs trs σ H2 fun ps H3 => Q ((x, y) :: ps) H3) _ _
  refine At.bind rp_m (hk.ok w σ ρ ev) fun x a w1 e1 s1 hx => At.bind rp_m (hv.ok w1 σ ρ (ev.ext e1)) fun y b w2 e2 s2 hy => At.bind rp_m (hr.ok w2 σ ρ ((ev.ext e1).ext e2)) fun ps qs w3 e3 s3 hps => ?_
  exact At.ret (a := (x, y) :: ps) (b := (a, b) :: qs) (R := RP K) (.cons ⟨(e2.trans e3).t hx, e3.t hy⟩ hps)
def keyed (μ : Mu) : List (T × T) → Option (List (Key × T))
  | [] => some []
  | (x, y) :: r => match keyOf (rd μ x), keyed μ r with
    | some k, some ks => some ((k, y) :: ks)
    | _, _ => none
def mergeT (kvs more : List (Key × T)) : List (Key × T) := more.foldl (fun acc kv => putT acc kv.1 kv.2) kvs
theorem keyed_ok {w : Wd} (s : StOk K w) : ∀ {xs : List (T × T)} {vs : List (V × V)} {ks : List (Key × T)}, Paired (fun a b => w.t K a.1 b.1 ∧ w.t K a.2 b.2) xs vs → keyed w.μ xs = some ks → ∃ kvs : List (Key × V), vs = kvs.map (fun kv => (kV kv.1, kv.2)) ∧ Paired (fun p q => p.1 = q.1 ∧ w.t K p.2 q.2) ks kvs
  | [], _, _, .nil, e => by cases e; exact ⟨[], rfl, .nil⟩
  | (x, y) :: xs, (a, b) :: vs, ks, .cons h t, e => by
    unfold keyed at e
    split at e
    · rename_i k ks' h1 h2
      cases e
      obtain ⟨kvs, q1, q2⟩ := keyed_ok s t h2
      refine ⟨(k, b) :: kvs, ?_, .cons ⟨rfl, h.2⟩ q2⟩
      rw [q1, show a = kV k from keyOf_ok (rd_ok s h.1) h1]
      rfl
    · cases e
theorem merge_ok {R : T → V → Prop} : ∀ {ms : List (Key × T)} {ns : List (Key × V)} {xs : List (Key × T)} {vs : List (Key × V)}, Paired (fun p q => p.1 = q.1 ∧ R p.2 q.2) ms ns → Paired (fun p q => p.1 = q.1 ∧ R p.2 q.2) xs vs → Paired (fun p q => p.1 = q.1 ∧ R p.2 q.2) (mergeT xs ms) (mergeK vs ns)
  | _, _, _, _, .nil, h => h
  | _, _, xs, vs, .cons a t, h => by
    show Paired _ (mergeT (putT xs _ _) _) (mergeK (putK vs _ _) _)
    rw [a.1]
    exact merge_ok t (putT_ok a.2 h)
def cDisp (f : PF) : CF := fun ρ => mbind (f ρ) fun ps μ => mof ((keyed μ ps).bind fun ks => if ks.length ≤ 15 then some (Cell.dct (mergeT [] ks)) else none) μ
theorem cok_disp {trs : List (TE × TE)} {f : PF} (h : ∀ w σ ρ, EnvOk K w σ ρ → At K E w (tPairs trs σ w.H) (f ρ) (RP K)) : COk K E (tDisp trs) (cDisp f) := fun w σ ρ ev s r er Q q1 q2 => by
  intro p hp
  obtain ⟨n1, n2, n3, n4⟩ := new_ok s (o := .dK []) hp
  refine At.use (h { w with H := upd w.H p (.dK []) } σ ρ (ev.ext n2)) n1 er _ (fun ps w1 vs _ e1 x1 s1 hps => ?_) fun x w' cls d z e' => q2 x w' cls d z (n2.trans e')
  have e1 : mof ((keyed w1.μ ps).bind fun ks => if ks.length ≤ 15 then some (Cell.dct (mergeT [] ks)) else none) w1.μ = some r := e1
  have hpp : ({ w with H := upd w.H p (.dK []) } : Wd).H p = some (.dK []) := upd_same
  have p1 : w1.H p = some (.dK []) := x1.keep p _ hpp fun ⟨n, c, k, _⟩ => n3 (List.mem_of_getElem? k)
  have A1 : p ∉ w1.A := fun k => n3 (x1.new p k (by rw [hpp]; simp))
  have F1 : w1.F p = none := x1.capt p n4 (by rw [hpp]; simp) fun ⟨n, c, k, _⟩ => n3 (List.mem_of_getElem? k)
  unfold mof at e1
  split at e1
  · cases e1
  · rename_i c hc
    cases e1
    obtain ⟨ks, h1, h2⟩ := Option.bind_eq_some_iff.mp hc
    split at h2
    · rename_i h15
      cases h2
      obtain ⟨kvs, g1, g2⟩ := keyed_ok s1 hps h1
      refine ⟨p1, kvs, g1, by rw [← pd_len g2]; exact h15, ?_⟩
      exact q1 _ { w1 with H := upd w1.H p (.dK (mergeK [] kvs)) } (.ref p) rfl (out_ext (n2.trans x1) hp) (out_ok s1 A1 F1) ⟨p, rfl, hp, A1, rfl, F1, _, upd_same, merge_ok g2 .nil⟩
    · cases h2
theorem pc_disp {pos : Pos} {keys : List (Option Expr)} {values : List Expr} {trs : List (TE × TE)} {f : PF} (h : PPd K X E pos keys values trs f) (hall : keys.all (·.isSome) = true := by rfl) (hl : keys.length = values.length := by rfl) (h0 : keys ≠ [] := by (intro z; cases z)) (h15 : keys.length ≤ 15 := by decide) :
    PCr K X E (.Dict keys values pos) (tDisp trs) (cDisp f) := ⟨pe_disp h.pe hall hl h0 h15, cok_disp h.ok⟩
/-! ### f-strings -/
def fmtT (x : T) : Option T := match x with
  | .d (.str y) => if y.length ≤ SL then some (.d (.str y)) else none
  | .d (.int i) => if i.natAbs.log2 < 1920 then some (.d (.str (toString i))) else none
  | _ => none
def eFmt (f : EF) : EF := fun ρ => mbind (f ρ) fun x μ => mof (fmtT (rd μ x)) μ
theorem pd_fmt {a : Expr} {ta : TE} {fa : EF} {pos : Pos} (ha : PD K X E a ta fa) : PD K X E (.FormattedValue a (-1) none pos) (tFmt ta) (eFmt fa) := by
  refine ⟨pe_fmt ha.pe, fun w σ ρ ev => ?_⟩
  show At K E w (fun Q => ta σ w.H fun x H1 => (∃ y : Str, x = .str y ∧ y.length ≤ sizeLine ∧ Q (V.str y) H1) ∨ ∃ i : Int, x = .int i ∧ i.natAbs.log2 < 1920 ∧ Q (V.str (toString i)) H1) _ _
  refine At.bind rv_m (ha.ok w σ ρ ev) fun x v w1 e1 s1 hx => ?_
  have q := At.pure (K := K) (E := E) (w := w1) (t := fun Q => (∃ y : Str, v = .str y ∧ y.length ≤ sizeLine ∧ Q (.str y) w1.H) ∨ ∃ i : Int, v = .int i ∧ i.natAbs.log2 < 1920 ∧ Q (.str (toString i)) w1.H) (o := fmtT (rd w1.μ x)) (R := RV K) fun s b hb => by
    have hx := rd_ok s hx
    generalize rd w1.μ x = y at hb hx
    unfold fmtT at hb
    split at hb
    · rename_i z
      split at hb
      · rename_i hz
        cases hb
        exact ⟨.str z, rfl, fun Q q => .inl ⟨z, hx, le_SL hz, q⟩⟩
      · cases hb
    · rename_i i
      split at hb
      · rename_i hz
        cases hb
        exact ⟨.str (toString i), rfl, fun Q q => .inr ⟨i, hx, hz, q⟩⟩
      · cases hb
    · cases hb
  exact q
structure PJd (K : PySem.W.Frag) (X : Cx) (E : XK) (es : List Expr) (ts : List TE) (fs : List EF) : Prop where
  pe : PJ X es ts
  ok : Paired (EOk K E) ts fs
theorem pj_n : PJd K X E [] [] [] := ⟨.nil, .nil⟩
theorem pj_c {e : Expr} {t : TE} {f : EF} {es : List Expr} {ts : List TE} {fs : List EF} (h : PD K X E e t f) (r : PJd K X E es ts fs) : PJd K X E (e :: es) (t :: ts) (f :: fs) := ⟨.cons h.pe r.pe, .cons h.ok r.ok⟩
def jnT (acc : Str) (x : T) : Option Str := match x with
  | .d (.str y) => if (acc ++ y).length ≤ SL then some (acc ++ y) else none
  | _ => none
def eJs : List EF → Str → EF
  | [], acc, _ => mret (.d (.str acc))
  | f :: fs, acc, ρ => mbind (f ρ) fun x μ => match jnT acc (rd μ x) with
    | some a => eJs fs a ρ μ
    | none => none
def eJoined (fs : List EF) : EF := eJs fs Str.empty
theorem at_js : ∀ {ts : List TE} {fs : List EF} (acc : Str) {w : Wd} {σ : L2.St} {ρ : Rho}, Paired (EOk K E) ts fs → EnvOk K w σ ρ → At K E w (fun Q => tJs ts acc σ w.H fun out H1 => Q (.str out) H1) (eJs fs acc ρ) (RV K)
  | _, _, acc, w, σ, ρ, .nil, ev => At.ret (R := RV K) (a := T.d (.str acc)) (b := V.str acc) rfl
  | t :: ts, f :: fs, acc, w, σ, ρ, .cons h r, ev => by
    show At K E w (fun Q => t σ w.H fun x H1 => ∃ y : Str, x = .str y ∧ (acc ++ y).length ≤ sizeLine ∧ tJs ts (acc ++ y) σ H1 fun out H2 => Q (V.str out) H2) _ _
    refine At.bind rv_m (h w σ ρ ev) fun x v w1 e1 s1 hx => ?_
    intro s rr er Q q1 q2
    have hx := rd_ok s hx
    have er : (match jnT acc (rd w1.μ x) with
      | some a => eJs fs a ρ w1.μ
      | none => none) = some rr := er
    generalize rd w1.μ x = y at er hx
    split at er
    · rename_i a ha
      unfold jnT at ha
      split at ha
      · rename_i z
        split at ha
        · rename_i hz
          cases ha
          exact ⟨z, hx, le_SL hz, at_js (acc ++ z) r (ev.ext e1) s rr er Q q1 q2⟩
        · cases ha
      · cases ha
    · cases er
theorem pd_joined {v1 v2 : Expr} {rest : List Expr} {ts : List TE} {fs : List EF} {pos : Pos} (h : PJd K X E (v1 :: v2 :: rest) ts fs) : PD K X E (.JoinedStr (v1 :: v2 :: rest) pos) (fun σ H Q => tJs ts Str.empty σ H fun out H1 => Q (.str out) H1) (eJoined fs) :=
  ⟨pe_joined h.pe, fun w σ ρ ev => at_js Str.empty h.ok ev⟩
theorem pd_joined1 {e : Expr} {t : TE} {f : EF} {pos : Pos} (h : PD K X E e t f) : PD K X E (.JoinedStr [e] pos) t f := ⟨pe_joined1 h.pe, h.ok⟩
/-! ### zip of two lists -/
def zipD (xs : List T) : Option (List T) := match xs with
  | [x, y] => match lstD x, lstD y with
    | some as, some bs => match dTs [] as, dTs [] bs with
      | some ds, some es => some ((ds.zip es).map fun p => T.d (.tup [p.1, p.2]))
      | _, _ => none
    | _, _ => none
  | _ => none
def iZp (f : AF) : AF := fun ρ => mbind (f ρ) fun xs μ => mof (zipD (xs.map (rd μ))) μ
theorem dTs_nil {xs : List T} {ds : List D} (h : dTs [] xs = some ds) : xs = ds.map T.d := by
  induction xs generalizing ds with
  | nil => cases h; rfl
  | cons x r ih =>
    unfold dTs at h
    cases x with
    | p n => cases h
    | d y =>
      have h : (match dTs [] r with
        | some ys => some (y :: ys)
        | none => none) = some ds := by
        cases q : dTs [] r with
        | none => rw [q] at h; cases h
        | some ys => rw [q] at h; exact h
      cases q : dTs [] r with
      | none => rw [q] at h; cases h
      | some ys =>
        rw [q] at h
        cases h
        rw [ih q]
        rfl
/-- a new tuple of data that stands -/
theorem tup_new {w : Wd} (s : StOk K w) {p : Addr} {vs : List V} {ds : List D} (hp : w.H p = none) (h : Reps K w.F ds vs) : ∃ w2 : Wd, w2.H = upd w.H p (.tup vs) ∧ w2.μ = w.μ ∧ Ext w w2 ∧ StOk K w2 ∧ w2.t K (.d (.tup ds)) (.ref p) := by
  obtain ⟨n1, n2, n3, n4⟩ := new_ok s (o := .tup vs) hp
  have hF : ({ w with H := upd w.H p (.tup vs) } : Wd).F p = none := n4
  have hat : ({ w with H := upd w.H p (.tup vs) } : Wd).H p = some (.tup vs) := upd_same
  have sm := fz_same hF w.μ
  refine ⟨({ w with H := upd w.H p (.tup vs) } : Wd).fz p w.μ, rfl, rfl, ⟨n2.sub.trans sm, n2.pre, n2.dom, n2.keep, fun b h1 h2 h3 => ?_, n2.lv, n2.new⟩, ⟨fun b o' q => ?_, n1.len, n1.nd, n1.tr, fun n b c q1 q2 => ?_⟩, ?_⟩
  · show (if b = p then upd w.H p (.tup vs) p else w.F b) = none
    rw [if_neg (fun z => h2 (by rw [z]; exact hp))]
    exact h1
  · show upd w.H p (.tup vs) b = some o'
    have q : (if b = p then upd w.H p (.tup vs) p else w.F b) = some o' := q
    by_cases hb : b = p
    · rw [if_pos hb] at q
      rw [hb]
      exact q
    · rw [if_neg hb] at q
      exact n1.sub b o' q
  · refine (n1.cell n b c q1 q2).rep sm (List.prefix_refl _) (fun l => ?_) fun _ => rfl
    show (if b = p then upd w.H p (.tup vs) p else w.F b) = none
    rw [if_neg (fun z => n3 (by rw [← z]; exact List.mem_of_getElem? q1))]
    exact ((n1.cell n b c q1 q2).nn l).1
  · exact ⟨p, vs, rfl, fz_at hat, h.mono sm⟩
theorem it_zip {e e2 : Expr} {ta : TA} {f : AF} {p pos tpos : Pos} {elts : List Expr} {kk : Nat} (hm : X.mg "zip" = none) (ha : PL K X E [e, e2] ta f) (hg : Gl X "zip" := by rfl) (hK : X.K = K := by rfl)
    (hs : starEach [e, e2] X.env = (false, eval e X.env) :: starEach [e2] X.env := by rfl) (hpl : (backTo pos (starEach [e2] X.env)).any (·.1) = false := by rfl) :
    PIt K X E (.Tuple elts kk tpos) (.Call (.Name "zip" p) [e, e2] [] pos) (iZip K ta) (iZp f) := by
  subst hK
  refine ⟨pi_zip hg hm ha.pe hs hpl, fun w σ ρ ev s r er R q1 q2 => ?_⟩
  show ta σ w.H fun vs H1 => ∃ a b xs ys, vs = [.ref a, .ref b] ∧ SqL X.K H1 a xs ∧ SqL X.K H1 b ys ∧ R (Itz X.K a b) H1
  refine At.use (ha.ok w σ ρ ev) s er _ (fun xs w1 vs _ er2 e1 s2 hx => ?_) q2
  have er2 : mof (zipD (xs.map (rd w1.μ))) w1.μ = some r := er2
  have hx := rds_ok s2 hx
  generalize xs.map (rd w1.μ) = ys at er2 hx
  unfold zipD mof at er2
  split at er2
  · cases er2
  · rename_i zs hzs
    split at hzs
    · rename_i x y
      split at hzs
      · rename_i as bs h1 h2
        split at hzs
        · rename_i ds es h3 h4
          cases hzs
          cases er2
          obtain ⟨v, u, rfl, hv, hu⟩ := two_of hx
          obtain ⟨a, av, a1, a2, a3⟩ := lstD_ok hv h1
          obtain ⟨b, bv, b1, b2, b3⟩ := lstD_ok hu h2
          rw [dTs_nil h3] at a3
          rw [dTs_nil h4] at b3
          refine ⟨a, b, av, bv, by rw [a1, b1], s2.sub.seq a2, s2.sub.seq b2, ?_⟩
          have la := pd_len a3
          have lb := pd_len b3
          rw [List.length_map] at la lb
          have hn : ((ds.zip es).map fun p => T.d (.tup [p.1, p.2])).length = min av.length bv.length := by rw [List.length_map, List.length_zip, la, lb]
          refine q1 _ w1 rfl e1 s2 _ _ _ (walk_zip hn) fun w2 x2 s3 => ⟨⟨s3.sub.seq (x2.sub.seq a2), s3.sub.seq (x2.sub.seq b2)⟩, fun i x H' hi y => ?_⟩
          obtain ⟨T', x', y', rfl, hT, rfl, hx', hy'⟩ := y
          obtain ⟨t1, c1, c2⟩ := pd_get' a3 hx'
          obtain ⟨t2, d1, d2⟩ := pd_get' b3 hy'
          rw [List.getElem?_map] at c1 d1
          obtain ⟨g1, k1, k2⟩ := Option.map_eq_some_iff.mp c1
          obtain ⟨g2, l1, l2⟩ := Option.map_eq_some_iff.mp d1
          subst k2
          subst l2
          obtain ⟨w4, j1, j2, j3, j4, j5⟩ := tup_new s3 (ds := [g1, g2]) hT ⟨_, _, rfl, x2.t c2, _, _, rfl, x2.t d2, rfl⟩
          refine ⟨w4, _, j1, j2, j3, j4, ?_, j5⟩
          rw [List.getElem?_map, show (ds.zip es)[i]? = some (g1, g2) from List.getElem?_zip_eq_some.mpr ⟨k1, l1⟩]
          rfl
        · cases hzs
      · cases hzs
    · cases hzs
/-! ### a flat thing in a list -/
def gInL (n : Bool) : G2 := fun μ x y => match flat x, (lstOf μ y).bind fun ys => ys.mapM flat with
  | some u, some us => some (.d (.bl (if n then !inV u us else inV u us)))
  | _, _ => none
end
/-! ### a def that stands -/
structure Dx (K : PySem.W.Frag) (mg : Str → Option Value) (x : Str) (st : Stmt) (ps : List Str) : Prop where
  ex : ∃ (f : Addr) (fd : FuncData), L2.Fun K x x st f fd ∧ mg x = some (.ref f) ∧ Binds K fd ps []
section
variable {P : Program} {w : World} {K : PySem.W.Frag} {mg : Str → Option Value} {base : Heap}
theorem okD {x : Str} {st : Stmt} {N ps : List Str} {k : Nat} {body : SF} (D : Dx K mg x st ps) (S : FnScope N ps (defScope st))
    (hbody : ∀ (f : Addr) (cdv : Value) (A : Around) (outer : List Env) (s : Shared) (H : Hp) (E : XK), BdS (cxOf (L2.CX P w) P w K mg base N x (defScope st) f cdv A outer s H E) E k → ∃ t, PBl K (cxOf (L2.CX P w) P w K mg base N x (defScope st) f cdv A outer s H E) E (defBody st) t body) :
    Fn P w K mg base (k + 1) x ps.length (fnB N.length body) := by
  obtain ⟨f, fd, F, hm, hb⟩ := D.ex
  exact okM F S hm hb (hbody f)
theorem okD0 {x : Str} {st : Stmt} {ps : List Str} {k : Nat} (D : Dx K mg x st ps) : Fn P w K mg base k x ps.length (fun _ _ => none) := by
  obtain ⟨f, fd, F, hm, hb⟩ := D.ex
  exact okM0 F hm hb
end
end Fm
set_option Elab.async false
set_option linter.all false
set_option maxRecDepth 100000
/-! De: a dict beside what is none; != of nested data. -/
namespace Fm
open PySem L2 PySem.Spec PyProof.Rows PySem.SeqAt PySem.W
open AutoSeq1 (wpAny_loadPart')
open MeetsSeq MeetsSeq2 MeetsSeq3
section
variable {prog : Program} {w : World} {KK : Type} [DecidableEq KK] {knd : KeyKind prog w KK} {A : Around} {s : Shared} {a b : Addr} {ka kb : List (KK × Value)}
/-- the dict says NotImplemented to a thing that is no dict -/
theorem dictNo {E : Value → Shared → Prop} {x : Value} {ty : String} (da : s.heap.DictOf knd a ka) (tx : s.TypeIs x ty) (hs : isSubtype (.type ty) (.type "dict") = pure false) (Q : Value → Shared → Prop) (q : Q .notImplemented s) :
    wpAny (model prog w) A (call (.builtin "dict.__eq__") [.ref a, x]) Q E s := by
  refine wpAny_call_entry PySem.F.slot_dict_eq da.typeIs PySem.F.entry_dict_eq ?_ (PySem.F.args_dict_eq_2 _ _)
  show wpAny _ _ (Builtin.Dict.dictSlotArgs "__eq__" ⟨[.ref a, x], []⟩ >>= _) _ _ s
  refine wpAny_bind ?_
  unfold Builtin.Dict.dictSlotArgs
  refine wpAny_bind (wpAny_notOrdered_dict da.typeIs ?_)
  show wpAny _ _ (pure (Value.ref a, x)) _ _ s
  refine wpAny_pure ?_
  refine wpAny_bind (wpAny_isInstance (T := ty) tx hs ?_)
  simp only [Bool.not_false, if_true]
  refine wpAny_bind (wpAny_rule (wpAny_bind (wpAny_pure (wpAny_pure ⟨_, rfl, q⟩))))
end
section
variable (l : Addr) (c : Value) (es : Array DictEntry) (ep : Nat) (dd : Option Addr) (sl : Array (Option Value))
abbrev dcO : Obj := { cls := c, dict := dd, data := .dict es ep, slots := sl }
/-- a number, a text, a list, a tuple say NotImplemented to a dict -/
theorem intNo (i : Int) (t : Tok) : Meets (Builtin.«int.__eq__» ⟨[.int i t, .ref l], []⟩) fun _ R s => s.heap.get? l = some (dcO c es ep dd sl) ∧ R (.ok (.ret .notImplemented)) s :=
  .of_wp fun prog w A R s h => by
    obtain ⟨hp, g, d, tk, os⟩ := s
    obtain ⟨hl, h⟩ := h
    wp_walk using wpAny_loadPart' hl, wpAny_load hl
    exact ⟨_, rfl, h⟩
theorem strNo (i : Str) (t : Tok) : Meets (Builtin.«str.__eq__» ⟨[.str i t, .ref l], []⟩) fun _ R s => s.heap.get? l = some (dcO c es ep dd sl) ∧ R (.ok (.ret .notImplemented)) s :=
  .of_wp fun prog w A R s h => by
    obtain ⟨hp, g, d, tk, os⟩ := s
    obtain ⟨hl, h⟩ := h
    wp_walk using wpAny_loadPart' hl, wpAny_load hl
    exact ⟨_, rfl, h⟩
variable (m : Addr) (its : Array Value) (n : Nat) (dd2 : Option Addr) (sl2 : Array (Option Value))
theorem lstNo : Meets (Builtin.«list.__eq__» ⟨[.ref m, .ref l], []⟩) fun _ R s => s.heap.get? l = some (dcO (.type "dict") es ep dd sl) ∧ s.heap.get? m = some { cls := .type "list", dict := dd2, data := .seq its n, slots := sl2 } ∧ R (.ok (.ret .notImplemented)) s :=
  .of_wp fun prog w A R s h => by
    obtain ⟨hp, g, d, tk, os⟩ := s
    obtain ⟨hl, hm, h⟩ := h
    have f1 := PySem.F.sub_dict_list
    wp_walk using wpAny_loadPart' hm, wpAny_loadPart' hl
    exact ⟨_, rfl, h⟩
theorem tupNo : Meets (Builtin.«tuple.__eq__» ⟨[.ref m, .ref l], []⟩) fun _ R s => s.heap.get? l = some (dcO (.type "dict") es ep dd sl) ∧ s.heap.get? m = some { cls := .type "tuple", dict := dd2, data := .seq its n, slots := sl2 } ∧ R (.ok (.ret .notImplemented)) s :=
  .of_wp fun prog w A R s h => by
    obtain ⟨hp, g, d, tk, os⟩ := s
    obtain ⟨hl, hm, h⟩ := h
    have f1 := PySem.F.sub_dict_tuple
    wp_walk using wpAny_loadPart' hm, wpAny_loadPart' hl
    exact ⟨_, rfl, h⟩
end
section
variable {prog : Program} {w : World} {KK : Type} [DecidableEq KK] {knd : KeyKind prog w KK} {A : Around} {s : Shared} {a b : Addr} {ka kb : List (KK × Value)}
/-- from the rich comparison to the truth of it -/
theorem eqIn_ri {i : Int} {t : Tok} {k : Bool} (h : ∀ (E Q : Value → Shared → Prop), Q (.bool k) s → wpAny (model prog w) A (richCompare .Eq (.ref a) (.int i t)) Q E s) : EqIn prog w A s (.ref a) (.int i t) k := fun E Q q => by
  unfold eqBool
  exact wpAny_holding (wpAny_ite_split (fun hab => absurd (eq_of_beq hab) nofun) fun _ => wpAny_bind (h E _ (wpAny_truthy_bool q)))
theorem eqIn_ir {i : Int} {t : Tok} {k : Bool} (h : ∀ (E Q : Value → Shared → Prop), Q (.bool k) s → wpAny (model prog w) A (richCompare .Eq (.int i t) (.ref a)) Q E s) : EqIn prog w A s (.int i t) (.ref a) k := fun E Q q => by
  unfold eqBool
  exact wpAny_holding (wpAny_ite_split (fun hab => absurd (eq_of_beq hab) nofun) fun _ => wpAny_bind (h E _ (wpAny_truthy_bool q)))
theorem eqIn_rs {i : Str} {t : Tok} {k : Bool} (h : ∀ (E Q : Value → Shared → Prop), Q (.bool k) s → wpAny (model prog w) A (richCompare .Eq (.ref a) (.str i t)) Q E s) : EqIn prog w A s (.ref a) (.str i t) k := fun E Q q => by
  unfold eqBool
  exact wpAny_holding (wpAny_ite_split (fun hab => absurd (eq_of_beq hab) nofun) fun _ => wpAny_bind (h E _ (wpAny_truthy_bool q)))
theorem eqIn_sr {i : Str} {t : Tok} {k : Bool} (h : ∀ (E Q : Value → Shared → Prop), Q (.bool k) s → wpAny (model prog w) A (richCompare .Eq (.str i t) (.ref a)) Q E s) : EqIn prog w A s (.str i t) (.ref a) k := fun E Q q => by
  unfold eqBool
  exact wpAny_holding (wpAny_ite_split (fun hab => absurd (eq_of_beq hab) nofun) fun _ => wpAny_bind (h E _ (wpAny_truthy_bool q)))
theorem dct_rec (da : s.heap.DictOf knd a ka) : ∃ es ep, s.heap.get? a = some (dcO (.type "dict") es ep none #[]) := by
  obtain ⟨⟨cls, dd, data, sl⟩, es, ep, ho, ⟨h1, h2, h3⟩, hd, _⟩ := da
  simp only at h1 h2 h3 hd
  subst h1 h2 h3 hd
  exact ⟨es, ep, ho⟩
theorem tyne {x y : String} (h : x ≠ y) : Value.type x ≠ Value.type y := fun e => h (by injection e)
theorem cls_ne {l m : Addr} {o p : Obj} {x y : String} (hl : s.heap.get? l = some o) (hm : s.heap.get? m = some p) (ho : o.cls = .type x) (hp : p.cls = .type y) (h : x ≠ y) : l ≠ m := fun e => by
  subst e
  rw [hl] at hm
  cases hm
  rw [ho] at hp
  cases hp
  exact h rfl
theorem eq_di (da : s.heap.DictOf knd a ka) (i : Int) (t : Tok) (hu : A.units < cLine) : EqIn prog w A s (.ref a) (.int i t) false := by
  obtain ⟨es, ep, ho⟩ := dct_rec da
  exact eqIn_ri fun E Q q => rc_eq_decline_or (k := false) da.typeIs rfl (by decide) PySem.F.sub_int_dict PySem.F.slot_dict_eq PySem.F.slot_int_eq_refl (fun Q' q' => dictNo (x := .int i t) (ty := "int") da rfl PySem.F.sub_int_dict Q' q')
    (fun _ hq => call_meets PySem.F.slot_int_eq_refl rfl PySem.F.entry_int_eq (PySem.F.args_int_eq_2 _ _) (intNo a _ es ep _ _ i t) ⟨ho, hq⟩) (fun _ hq => wpAny_of_eq (rfl : isSame (.ref a) (.int i t) = pure false) hq) (.inr hu) q
theorem eq_id (da : s.heap.DictOf knd a ka) (i : Int) (t : Tok) (hu : A.units < cLine) : EqIn prog w A s (.int i t) (.ref a) false := by
  obtain ⟨es, ep, ho⟩ := dct_rec da
  exact eqIn_ir fun E Q q => rc_eq_decline_or (k := false) rfl da.typeIs (by decide) PySem.F.sub_dict_int PySem.F.slot_int_eq PySem.F.slot_dict_eq_refl
    (fun _ hq => call_meets PySem.F.slot_int_eq rfl PySem.F.entry_int_eq (PySem.F.args_int_eq_2 _ _) (intNo a _ es ep _ _ i t) ⟨ho, hq⟩) (fun Q' q' => dictNo (x := .int i t) (ty := "int") da rfl PySem.F.sub_int_dict Q' q') (fun _ hq => wpAny_of_eq (rfl : isSame (.int i t) (.ref a) = pure false) hq) (.inr hu) q
theorem eq_ds (da : s.heap.DictOf knd a ka) (i : Str) (t : Tok) (hu : A.units < cLine) : EqIn prog w A s (.ref a) (.str i t) false := by
  obtain ⟨es, ep, ho⟩ := dct_rec da
  exact eqIn_rs fun E Q q => rc_eq_decline_or (k := false) da.typeIs rfl (by decide) PySem.F.sub_str_dict PySem.F.slot_dict_eq PySem.F.slot_str_eq_refl (fun Q' q' => dictNo (x := .str i t) (ty := "str") da rfl PySem.F.sub_str_dict Q' q')
    (fun _ hq => call_meets PySem.F.slot_str_eq_refl rfl PySem.F.entry_str_eq (PySem.F.args_str_eq_2 _ _) (strNo a _ es ep _ _ i t) ⟨ho, hq⟩) (fun _ hq => wpAny_of_eq (rfl : isSame (.ref a) (.str i t) = pure false) hq) (.inr hu) q
theorem eq_sd (da : s.heap.DictOf knd a ka) (i : Str) (t : Tok) (hu : A.units < cLine) : EqIn prog w A s (.str i t) (.ref a) false := by
  obtain ⟨es, ep, ho⟩ := dct_rec da
  exact eqIn_sr fun E Q q => rc_eq_decline_or (k := false) rfl da.typeIs (by decide) PySem.F.sub_dict_str PySem.F.slot_str_eq PySem.F.slot_dict_eq_refl
    (fun _ hq => call_meets PySem.F.slot_str_eq rfl PySem.F.entry_str_eq (PySem.F.args_str_eq_2 _ _) (strNo a _ es ep _ _ i t) ⟨ho, hq⟩) (fun Q' q' => dictNo (x := .str i t) (ty := "str") da rfl PySem.F.sub_str_dict Q' q') (fun _ hq => wpAny_of_eq (rfl : isSame (.str i t) (.ref a) = pure false) hq) (.inr hu) q
theorem same_dt {l m : Addr} {o p : Obj} (hlm : l ≠ m) (hl : s.heap.get? l = some o) (hm : s.heap.get? m = some p) (hx : o.cls ≠ .type "tuple") {Q : Bool → Shared → Prop} {E : Value → Shared → Prop} (q : Q false s) : wpAny (model prog w) A (isSame (.ref l) (.ref m)) Q E s := by
  show wpAny _ A (if (l == m) = true then pure true else _) Q E s
  rw [if_neg (by simpa using hlm)]
  refine wpAny_bind (wpAny_load hl (wpAny_bind (wpAny_load hm ?_)))
  split
  · rename_i h1 _ _ _
    exact absurd h1 hx
  · exact wpAny_pure q
theorem eq_dl {l : Addr} {its : Array Value} (da : s.heap.DictOf knd a ka) (hl : s.heap.IsList l its) (hu : A.units < cLine) : EqIn prog w A s (.ref a) (.ref l) false := by
  obtain ⟨es, ep, ho⟩ := dct_rec da
  obtain ⟨⟨cls, dd, data, sl⟩, hm, hc, n, hd⟩ := id hl
  simp only at hc hd
  subst hc hd
  have tl : s.TypeIs (.ref l) "list" := ⟨_, hm, rfl⟩
  have hne := cls_ne ho hm rfl rfl (by decide)
  exact EqIn.of_refs hne fun E Q q => rc_eq_decline_or (k := false) da.typeIs tl (by decide) PySem.F.sub_list_dict PySem.F.slot_dict_eq PySem.F.slot_list_eq_refl (fun Q' q' => dictNo da tl PySem.F.sub_list_dict Q' q')
    (fun _ hq => call_meets PySem.F.slot_list_eq_refl tl PySem.F.entry_list_eq (PySem.F.args_list_eq_2 _ _) (lstNo a es ep _ _ l its n dd sl) ⟨ho, hm, hq⟩) (fun _ hq => same_dt hne ho hm (tyne (by decide)) hq) (.inr hu) q
theorem eq_ld {l : Addr} {its : Array Value} (da : s.heap.DictOf knd a ka) (hl : s.heap.IsList l its) (hu : A.units < cLine) : EqIn prog w A s (.ref l) (.ref a) false := by
  obtain ⟨es, ep, ho⟩ := dct_rec da
  obtain ⟨⟨cls, dd, data, sl⟩, hm, hc, n, hd⟩ := id hl
  simp only at hc hd
  subst hc hd
  have tl : s.TypeIs (.ref l) "list" := ⟨_, hm, rfl⟩
  have hne := cls_ne hm ho rfl rfl (by decide)
  exact EqIn.of_refs hne fun E Q q => rc_eq_decline_or (k := false) tl da.typeIs (by decide) PySem.F.sub_dict_list PySem.F.slot_list_eq PySem.F.slot_dict_eq_refl
    (fun _ hq => call_meets PySem.F.slot_list_eq tl PySem.F.entry_list_eq (PySem.F.args_list_eq_2 _ _) (lstNo a es ep _ _ l its n dd sl) ⟨ho, hm, hq⟩) (fun Q' q' => dictNo da tl PySem.F.sub_list_dict Q' q') (fun _ hq => same_dt hne hm ho (tyne (by decide)) hq) (.inr hu) q
theorem eq_dt {l : Addr} {its : Array Value} (da : s.heap.DictOf knd a ka) (hl : s.heap.IsTuple l its) (hu : A.units < cLine) : EqIn prog w A s (.ref a) (.ref l) false := by
  obtain ⟨es, ep, ho⟩ := dct_rec da
  obtain ⟨⟨cls, dd, data, sl⟩, hm, hc, n, hd⟩ := id hl
  simp only at hc hd
  subst hc hd
  have tl : s.TypeIs (.ref l) "tuple" := ⟨_, hm, rfl⟩
  have hne := cls_ne ho hm rfl rfl (by decide)
  exact EqIn.of_refs hne fun E Q q => rc_eq_decline_or (k := false) da.typeIs tl (by decide) PySem.F.sub_tuple_dict PySem.F.slot_dict_eq PySem.F.slot_tuple_eq_refl (fun Q' q' => dictNo da tl PySem.F.sub_tuple_dict Q' q')
    (fun _ hq => call_meets PySem.F.slot_tuple_eq_refl tl PySem.F.entry_tuple_eq (PySem.F.args_tuple_eq_2 _ _) (tupNo a es ep _ _ l its n dd sl) ⟨ho, hm, hq⟩) (fun _ hq => same_dt hne ho hm (tyne (by decide)) hq) (.inr hu) q
theorem eq_td {l : Addr} {its : Array Value} (da : s.heap.DictOf knd a ka) (hl : s.heap.IsTuple l its) (hu : A.units < cLine) : EqIn prog w A s (.ref l) (.ref a) false := by
  obtain ⟨es, ep, ho⟩ := dct_rec da
  obtain ⟨⟨cls, dd, data, sl⟩, hm, hc, n, hd⟩ := id hl
  simp only at hc hd
  subst hc hd
  have tl : s.TypeIs (.ref l) "tuple" := ⟨_, hm, rfl⟩
  have hne := cls_ne hm ho rfl rfl (by decide)
  exact EqIn.of_refs hne fun E Q q => rc_eq_decline_or (k := false) tl da.typeIs (by decide) PySem.F.sub_dict_tuple PySem.F.slot_tuple_eq PySem.F.slot_dict_eq_refl
    (fun _ hq => call_meets PySem.F.slot_tuple_eq tl PySem.F.entry_tuple_eq (PySem.F.args_tuple_eq_2 _ _) (tupNo a es ep _ _ l its n dd sl) ⟨ho, hm, hq⟩) (fun Q' q' => dictNo da tl PySem.F.sub_tuple_dict Q' q') (fun _ hq => wpAny_isSame_ref_other' hne hm ho (tyne (by decide)) hq) (.inr hu) q
end
end Fm
set_option Elab.async false
set_option linter.all false
set_option maxRecDepth 100000
namespace Fm
open PySem L2 PySem.Spec PyProof.Rows PySem.SeqAt PySem.W
open AutoSeq1 (wpAny_loadPart')
open MeetsSeq MeetsSeq2 MeetsSeq3 SeqRoads2
/-! ### != of lists, tuples, dicts, whatever their items are -/
abbrev sqO (ty : String) (its : Array Value) (n : Nat) (dd : Option Addr) (sl : Array (Option Value)) : Obj := { cls := .type ty, dict := dd, data := .seq its n, slots := sl }
section
variable {prog : Program} {w : World} {l m : Addr} {xs ys : Array Value} {n1 n2 : Nat} {d1 d2 : Option Addr} {s1 s2 : Array (Option Value)} {e : Nat → Bool}
theorem neLoop (hsz : xs.size = ys.size) : ∀ (k i : Nat), xs.size - i = k → MeetsIn prog w (Builtin.«list.__eq__.loop» ⟨[.ref l, .ref m, rawInt i, rawInt 3], []⟩)
      (fun A R s => s.heap.get? l = some (sqO "list" xs n1 d1 s1) ∧ s.heap.get? m = some (sqO "list" ys n2 d2 s2) ∧ (∀ j (h1 : j < xs.size) (h2 : j < ys.size), EqIn prog w A.in1 s xs[j] ys[j] (e j)) ∧ R (.ok (.ret (.bool (!((List.range xs.size).drop i).all e)))) s)
  | 0, i, hk => by
    rintro A R ⟨hp, g, d, tk, os⟩ ⟨hl, hb, he, h⟩
    wp_walk using wpAny_loadPart' hl, wpAny_loadPart' hb
    have hd : (List.range xs.size).drop i = [] := by simp; omega
    rw [hd] at h
    rw [show xs[((i : Nat) : Int).toNat]? = none by simp; omega, show ys[((i : Nat) : Int).toNat]? = none by simp; omega]
    wp_walk using wpAny_loadPart' hl, wpAny_loadPart' hb
    show R (.ok (.ret (.bool (xs.size != ys.size)))) _
    rw [hsz]
    simpa using h
  | k + 1, i, hk => by
    rintro A R ⟨hp, g, d, tk, os⟩ ⟨hl, hb, he, h⟩
    wp_walk using wpAny_loadPart' hl, wpAny_loadPart' hb
    have g1 : i < xs.size := by omega
    have g2 : i < ys.size := by omega
    have i1 : xs[((i : Nat) : Int).toNat]? = some xs[i] := by simp [g1]
    have i2 : ys[((i : Nat) : Int).toNat]? = some ys[i] := by simp [g2]
    have hd : (List.range xs.size).drop i = i :: (List.range xs.size).drop (i + 1) := by simp [List.drop_eq_getElem_cons, g1]
    rw [hd, List.all_cons] at h
    rw [i1, i2]
    refine wpAny_bind (he i g1 g2 _ _ ?_)
    cases hb' : e i
    · rw [hb'] at h
      wp_walk using wpAny_loadPart' hl, wpAny_loadPart' hb
      rw [i1, i2]
      wp_walk
      simpa using h
    · rw [hb'] at h
      wp_walk
      rw [show ((i : Int) + 1) = ((i + 1 : Nat) : Int) by push_cast; rfl]
      exact ⟨plainId_quiet plain_eq_loop _, codeAny_builtin entry_eq_loop (by
        rw [Around.under_plainId plain_eq_loop _]
        exact neLoop hsz k (i + 1) (by omega) A R _ ⟨hl, hb, he, by simpa using h⟩)⟩
theorem neList (hsz : xs.size = ys.size) : MeetsIn prog w (Builtin.«list.__ne__» ⟨[.ref l, .ref m], []⟩)
      (fun A R s => s.heap.get? l = some (sqO "list" xs n1 d1 s1) ∧ s.heap.get? m = some (sqO "list" ys n2 d2 s2) ∧ (∀ j (h1 : j < xs.size) (h2 : j < ys.size), EqIn prog w A.in1 s xs[j] ys[j] (e j)) ∧ R (.ok (.ret (.bool (!(List.range xs.size).all e)))) s) := by
  rintro A R ⟨hp, g, d, tk, os⟩ ⟨hl, hb, he, h⟩
  have f3 := AutoSeq1.sub_list_list
  have hne : ¬ (xs.size != ys.size) = true := by simp [hsz]
  wp_walk using wpAny_loadPart' hl, wpAny_loadPart' hb
  exact ⟨plainId_quiet plain_eq_loop _, codeAny_builtin entry_eq_loop (by
    rw [Around.under_plainId plain_eq_loop _]
    exact neLoop hsz _ 0 rfl A R _ ⟨hl, hb, he, by simpa using h⟩)⟩
theorem rcNe_lists {A : Around} {s : Shared} (hl : s.heap.IsList l xs) (hm : s.heap.IsList m ys) (hsz : xs.size = ys.size) (hu : A.units < cLine) (he : ∀ j (h1 : j < xs.size) (h2 : j < ys.size), EqIn prog w A.in1 s xs[j] ys[j] (e j)) (E Q : Value → Shared → Prop) (h : Q (.bool (!(List.range xs.size).all e)) s) :
    wpAny (model prog w) A (richCompare .NotEq (.ref l) (.ref m)) Q E s := by
  obtain ⟨⟨cls, dd, data, sl⟩, ho, hc, n, hd⟩ := id hl
  obtain ⟨⟨cls2, dd2, data2, sl2⟩, ho2, hc2, n2, hd2⟩ := id hm
  simp only at hc hd hc2 hd2
  subst hc hd hc2 hd2
  exact wpAny_richCompare_same_room (T := "list") (op := .NotEq) ⟨_, ho, rfl⟩ ⟨_, ho2, rfl⟩ PySem.F.slot_list_ne (call_meetsIn PySem.F.slot_list_ne ⟨_, ho, rfl⟩ PySem.F.entry_list_ne (PySem.F.args_list_ne_2 _ _) (neList hsz)
    ⟨ho, ho2, he, show Value.bool _ ≠ Value.notImplemented ∧ Q (.bool _) s from ⟨(fun x => nomatch x), h⟩⟩) hu
theorem neTuple : MeetsIn prog w (Builtin.«tuple.__ne__» ⟨[.ref l, .ref m], []⟩)
      (fun A R s => s.heap.get? l = some (sqO "tuple" xs n1 d1 s1) ∧ s.heap.get? m = some (sqO "tuple" ys n2 d2 s2) ∧ (∀ j (h1 : j < xs.size) (h2 : j < ys.size), EqIn prog w A.in1 s xs[j] ys[j] (e j)) ∧ R (.ok (.ret (.bool (!((List.range (min xs.size ys.size)).all e && xs.size == ys.size))))) s) := by
  rintro A R ⟨hp, g, d, tk, os⟩ ⟨hl, hb, he, h⟩
  have f2 := AutoSeq1.sub_tuple_tuple
  let Z := xs.toList.zip ys.toList
  have hZ : Z.length = min xs.size ys.size := by simp [Z]
  wp_walk using wpAny_loadPart' hl, wpAny_loadPart' hb, wpAny_forIn_list _ (fun rest b s' => b.1 = none ∧ s' = ⟨hp, g, d, tk, os⟩ ∧ ∃ i, rest = Z.drop i ∧ R (.ok (.ret (.bool (!(((List.range (min xs.size ys.size)).drop i).all e && xs.size == ys.size))))) ⟨hp, g, d, tk, os⟩) _
  case turn =>
    rintro ⟨y, x⟩ rest b s' ⟨hb', rfl, i, hz, hR⟩
    have hlt : i < Z.length := by
      rcases Nat.lt_or_ge i Z.length with h' | h'
      · exact h'
      · rw [List.drop_of_length_le h'] at hz
        cases hz
    have hm : i < min xs.size ys.size := hZ ▸ hlt
    have g1 : i < xs.size := Nat.lt_of_lt_of_le hm (Nat.min_le_left _ _)
    have g2 : i < ys.size := Nat.lt_of_lt_of_le hm (Nat.min_le_right _ _)
    rw [List.drop_eq_getElem_cons hlt] at hz
    injection hz with hyx hrest
    have hy : y = xs[i] := by simpa [Z] using congrArg Prod.fst hyx
    have hx : x = ys[i] := by simpa [Z] using congrArg Prod.snd hyx
    subst hy hx
    rw [show (List.range (min xs.size ys.size)).drop i = i :: (List.range (min xs.size ys.size)).drop (i + 1) by simp [List.drop_eq_getElem_cons, hm], List.all_cons] at hR
    refine wpAny_bind (he i g1 g2 _ _ ?_)
    cases hy : e i
    · rw [hy] at hR
      wp_walk
      simpa using hR
    · rw [hy] at hR
      wp_walk
      exact ⟨rfl, rfl, i + 1, hrest, by simpa using hR⟩
  case fin =>
    rintro ⟨b1, b2⟩ s' ⟨hb', rfl, i, hz, hR⟩
    simp only at hb'
    subst hb'
    have hge : min xs.size ys.size ≤ i := by
      rcases Nat.lt_or_ge i Z.length with h' | h'
      · rw [List.drop_eq_getElem_cons h'] at hz
        cases hz
      · exact hZ ▸ h'
    rw [List.drop_of_length_le (by simpa using hge)] at hR
    wp_walk
    simpa [Builtin.Tuple.tupleCompareSizes, bne] using hR
  case h =>
    exact ⟨rfl, rfl, 0, rfl, by simpa using h⟩
theorem rcNe_tuples {A : Around} {s : Shared} (hl : s.heap.IsTuple l xs) (hm : s.heap.IsTuple m ys) (hu : A.units < cLine) (he : ∀ j (h1 : j < xs.size) (h2 : j < ys.size), EqIn prog w A.in1 s xs[j] ys[j] (e j)) (E Q : Value → Shared → Prop) (h : Q (.bool (!((List.range (min xs.size ys.size)).all e && xs.size == ys.size))) s) :
    wpAny (model prog w) A (richCompare .NotEq (.ref l) (.ref m)) Q E s := by
  obtain ⟨⟨cls, dd, data, sl⟩, ho, hc, n, hd⟩ := id hl
  obtain ⟨⟨cls2, dd2, data2, sl2⟩, ho2, hc2, n2, hd2⟩ := id hm
  simp only at hc hd hc2 hd2
  subst hc hd hc2 hd2
  exact wpAny_richCompare_same_room (T := "tuple") (op := .NotEq) ⟨_, ho, rfl⟩ ⟨_, ho2, rfl⟩ PySem.F.slot_tuple_ne (call_meetsIn PySem.F.slot_tuple_ne ⟨_, ho, rfl⟩ PySem.F.entry_tuple_ne (PySem.F.args_tuple_ne_2 _ _) neTuple
    ⟨ho, ho2, he, show Value.bool _ ≠ Value.notImplemented ∧ Q (.bool _) s from ⟨(fun x => nomatch x), h⟩⟩) hu
end
section
variable {prog : Program} {w : World} {KK : Type} [DecidableEq KK] {knd : KeyKind prog w KK} {A : Around} {s : Shared} {a b : Addr} {ka kb : List (KK × Value)}
theorem rcNe_dicts {r : Bool} (ha : (a == sysModules) = false) (hb : (b == sysModules) = false) (da : s.heap.DictOf knd a ka) (db : s.heap.DictOf knd b kb) (hu : A.units < cLine) (hits : ka.length = kb.length → KeqHitsIn prog w A.in1 s kb ka r) (E Q : Value → Shared → Prop) (h : Q (.bool (!(ka.length == kb.length && r))) s) :
    wpAny (model prog w) A (richCompare .NotEq (.ref a) (.ref b)) Q E s := by
  refine wpAny_richCompare_same_room (op := .NotEq) da.typeIs db.typeIs PySem.F.slot_dict_ne (wpAny_call_entry PySem.F.slot_dict_ne da.typeIs PySem.F.entry_dict_ne ?_ (PySem.F.args_dict_ne_2 _ _)) hu
  show wpAny _ _ (Builtin.Dict.dictSlotArgs "__ne__" ⟨[.ref a, .ref b], []⟩ >>= _) _ _ s
  refine wpAny_bind ?_
  unfold Builtin.Dict.dictSlotArgs
  refine wpAny_bind (wpAny_notOrdered_dict da.typeIs (wpAny_pure ?_))
  refine wpAny_bind (wpAny_isInstance (T := "dict") db.typeIs PySem.F.sub_dict_dict ?_)
  simp only [Bool.not_true, Bool.false_eq_true, if_false]
  refine wpAny_bind (wpAny_pure (wpAny_bind (wpAny_pure (wpAny_bind (keq_samePairsIn ha hb da db hits (wpAny_pure ⟨_, rfl, (fun x => by cases x), ?_⟩))))))
  simpa using h
end
end Fm
set_option Elab.async false
set_option linter.all false
set_option maxRecDepth 100000
namespace Fm
open PySem L2 PySem.Spec PyProof.Rows PySem.SeqAt PySem.W

/-! ### == of data, whatever it holds -/
/-- what is compared at once -/
def feq : D → D → Option Bool
  | .non, .non => some true
  | .bl a, .bl b => some (a == b)
  | .int a, .int b => some (a == b)
  | .str a, .str b => some (a == b)
  | .int _, .str _ => some false
  | .str _, .int _ => some false
  | .non, .int _ => some false
  | .non, .str _ => some false
  | .int _, .non => some false
  | .str _, .non => some false
  | _, _ => none
def zipO (f : D → D → Option Bool) : List D → List D → Option Bool
  | x :: xs, y :: ys => match f x y, zipO f xs ys with
    | some a, some b => some (a && b)
    | _, _ => none
  | _, _ => some true
def valD (ls : List (Key × D)) (k : Key) : Option D := (ls.find? fun kv => decide (kv.1 = k)).map (·.2)
def dctO (f : D → D → Option Bool) (ls : List (Key × D)) : List (Key × D) → Option Bool
  | [] => some true
  | (k, x) :: r => match valD ls k with
    | none => (dctO f ls r).map fun _ => false
    | some y => match f x y, dctO f ls r with
      | some a, some b => some (a && b)
      | _, _ => none
def ki : D → Nat
  | .int _ => 1
  | .str _ => 2
  | .lst _ => 3
  | .tup _ => 4
  | .dct _ => 5
  | _ => 0
/-- things of two kinds, one of them with parts -/
def mixed (x y : D) : Bool := decide (ki x ≠ 0 ∧ ki y ≠ 0 ∧ ki x ≠ ki y ∧ (3 ≤ ki x ∨ 3 ≤ ki y))
def deq : Nat → D → D → Option Bool
  | 0, x, y => feq x y
  | n + 1, x, y => match x, y with
    | .lst xs, .lst ys => if xs.length = ys.length then zipO (deq n) xs ys else some false
    | .tup xs, .tup ys => (zipO (deq n) xs ys).map fun b => b && decide (xs.length = ys.length)
    | .dct ks, .dct ls => (dctO (deq n) ls ks).map fun b => decide (ks.length = ls.length) && b
    | x, y => if mixed x y = true then some false else feq x y
section
variable {X : Cx} {pins : List (Addr × Obj)} {σ : L2.St} {H : Hp} {s : Shared}
theorem feq_at {A : Around} {d e : D} {x y : V} {v u : Value} {b : Bool} (h : feq d e = some b) (rd : Rep X.K H d x) (re : Rep X.K H e y) (rx : RelV x v) (ry : RelV y u) : EqAt A s v u b := by
  unfold feq at h
  split at h
  all_goals first
    | cases h
    | skip
  all_goals cases (show x = _ from rd)
  all_goals cases (show y = _ from re)
  · cases rx; cases ry; exact EqAt.same _
  · cases rx; cases ry; exact EqAt.bool_bool _ _
  · obtain ⟨t, rfl⟩ := rx; obtain ⟨t', rfl⟩ := ry; exact EqAt.int_int _ _ _ _
  · obtain ⟨t, rfl⟩ := rx; obtain ⟨t', rfl⟩ := ry; exact EqAt.str_str _ _ _ _
  · obtain ⟨t, rfl⟩ := rx; obtain ⟨t', rfl⟩ := ry; exact EqAt.int_str _ _ _ _
  · obtain ⟨t, rfl⟩ := rx; obtain ⟨t', rfl⟩ := ry; exact EqAt.str_int _ _ _ _
  · cases rx; obtain ⟨t', rfl⟩ := ry; exact EqAt.none_int _ _
  · cases rx; obtain ⟨t', rfl⟩ := ry; exact EqAt.none_str _ _
  · obtain ⟨t, rfl⟩ := rx; cases ry; exact EqAt.int_none _ _
  · obtain ⟨t, rfl⟩ := rx; cases ry; exact EqAt.str_none _ _
/-- data that stands at one place is equal -/
theorem feq_same {d e : D} {x : V} {b : Bool} (h : feq d e = some b) (rd : Rep X.K H d x) (re : Rep X.K H e x) : b = true := by
  unfold feq at h
  split at h
  all_goals first
    | cases h
    | skip
  all_goals cases (show x = _ from rd)
  all_goals first
    | rfl
    | cases (show _ = _ from re)
  all_goals simp
theorem zipO_same {f : D → D → Option Bool} (hf : ∀ d e x b, f d e = some b → Rep X.K H d x → Rep X.K H e x → b = true) : ∀ {xs ys : List D} {vs : List V} {b : Bool}, zipO f xs ys = some b → Reps X.K H xs vs → Reps X.K H ys vs → b = true
  | [], _, _, b, h, _, _ => by cases h; rfl
  | x :: xs, [], _, b, h, _, _ => by cases h; rfl
  | x :: xs, y :: ys, vs, b, h, hx, hy => by
    obtain ⟨v, r, rfl, h1, h2⟩ := hx
    obtain ⟨v', r', e, h3, h4⟩ := hy
    cases e
    unfold zipO at h
    split at h
    · rename_i p q hp hq
      cases h
      rw [hf _ _ _ _ hp h1 h3, zipO_same hf hq h2 h4]
      rfl
    · cases h
theorem Reps.len {xs : List D} {vs : List V} (h : Reps X.K H xs vs) : xs.length = vs.length := pd_len (Reps.paired.mp h)
theorem RepK.keys {ks : List (Key × D)} {ws : List (Key × V)} (h : RepK X.K H ks ws) : ks.map (·.1) = ws.map (·.1) := by
  have h := RepK.paired.mp h
  induction h with
  | nil => rfl
  | cons a b ih => rw [List.map_cons, List.map_cons, a.1, ih (RepK.paired.mpr b)]
theorem valD_rep {ls : List (Key × D)} {ws : List (Key × V)} (h : RepK X.K H ls ws) (k : Key) : match valD ls k with
    | some y => ∃ v, valV ws k = some v ∧ Rep X.K H y v
    | none => valV ws k = none := by
  have h := RepK.paired.mp h
  induction h with
  | nil => rfl
  | @cons a b l1 l2 q t ih =>
    obtain ⟨j, y⟩ := a
    obtain ⟨j', v⟩ := b
    obtain ⟨e, r⟩ := q
    cases e
    by_cases ek : j = k
    · rw [show valD ((j, y) :: l1) k = some y by simp [valD, List.find?_cons, ek]]
      exact ⟨v, valV_pos ek, r⟩
    · rw [show valD ((j, y) :: l1) k = valD l1 k by simp [valD, List.find?_cons, ek], valV_neg ek]
      exact ih (RepK.paired.mpr t)
theorem valV_mem {ws : List (Key × V)} (hn : (ws.map (·.1)).Nodup) {k : Key} {v : V} (h : (k, v) ∈ ws) : valV ws k = some v := by
  induction ws with
  | nil => cases h
  | cons p r ih =>
    obtain ⟨j, u⟩ := p
    obtain ⟨h1, h2⟩ := List.nodup_cons.mp hn
    rcases List.mem_cons.mp h with e | e
    · cases e
      exact valV_pos rfl
    · have hne : j ≠ k := fun z => h1 (by show j ∈ _; rw [z]; exact List.mem_map.mpr ⟨_, e, rfl⟩)
      rw [valV_neg hne]
      exact ih h2 e
theorem dctO_same {f : D → D → Option Bool} (hf : ∀ d e x b, f d e = some b → Rep X.K H d x → Rep X.K H e x → b = true) {ls : List (Key × D)} {ws : List (Key × V)} (hl : RepK X.K H ls ws) (hn : (ws.map (·.1)).Nodup) : ∀ {ks : List (Key × D)} {us : List (Key × V)} {b : Bool}, dctO f ls ks = some b → RepK X.K H ks us → (∀ p ∈ us, p ∈ ws) → b = true
  | [], _, b, h, _, _ => by cases h; rfl
  | (k, x) :: r, us, b, h, hx, hs => by
    obtain ⟨v, us', rfl, h1, h2⟩ := hx
    have hv : valV ws k = some v := valV_mem hn (hs _ List.mem_cons_self)
    have hr := valD_rep hl k
    unfold dctO at h
    cases hd : valD ls k with
    | none =>
      rw [hd] at hr
      rw [hr] at hv
      cases hv
    | some y =>
      rw [hd] at hr h
      obtain ⟨v', e1, e2⟩ := hr
      rw [e1] at hv
      cases hv
      have h : (match f x y, dctO f ls r with | some a, some b => some (a && b) | _, _ => none) = some b := h
      split at h
      · rename_i p q hp hq
        cases h
        rw [hf _ _ _ _ hp h1 e2, dctO_same hf hl hn hq h2 fun p hp => hs p (List.mem_cons_of_mem _ hp)]
        rfl
      · cases h
theorem dict_at (I : Inv X pins σ H s) {a : Addr} {ws : List (Key × V)} (h : Rd H a (.dK ws)) : (a == sysModules) = false ∧ ∃ va, KV ws va ∧ s.heap.DictOf (mixKind X.prog X.w) a va ∧ (ws.map (·.1)).Nodup := by
  obtain ⟨_, ya, va, ra, da⟩ := dk_rd I.hok h
  refine ⟨ya, va, ra, da, ?_⟩
  rw [ra.keys]
  obtain ⟨o, es, ep, _, _, _, _, _, hn⟩ := da
  exact hn
theorem rd_uniq {H : Hp} {a : Addr} {vs ws : List (Key × V)} (h : Rd H a (.dK vs)) (h' : Rd H a (.dK ws)) : vs = ws := by
  rcases h with h | ⟨o, h⟩ <;> rcases h' with h' | ⟨o', h'⟩ <;> rw [h] at h' <;> cases h' <;> rfl
def kio : HO → Nat
  | .lst _ => 3
  | .tup _ => 4
  | .dK _ => 5
  | .frz _ (.dK _) => 5
  | _ => 0
theorem kio_of {d : D} {a : Addr} (h : Rep X.K H d (.ref a)) (hd : 3 ≤ ki d) : ∃ o, H a = some o ∧ kio o = ki d := by
  cases d <;> simp only [ki] at hd <;> first | omega | skip
  · obtain ⟨_, vs, e, h1, _⟩ := h
    cases e
    exact ⟨_, h1, rfl⟩
  · obtain ⟨_, vs, e, h1, _⟩ := h
    cases e
    exact ⟨_, h1, rfl⟩
  · obtain ⟨_, vs, e, h1, _⟩ := h
    cases e
    rcases h1 with h1 | ⟨od, h1⟩
    · exact ⟨_, h1, rfl⟩
    · exact ⟨_, h1, rfl⟩
theorem ki_rep {d e : D} {x : V} (rd : Rep X.K H d x) (re : Rep X.K H e x) (hd : ki d ≠ 0) (he : ki e ≠ 0) : ki d = ki e := by
  have key : ∀ {d e : D} {x : V}, Rep X.K H d x → Rep X.K H e x → 3 ≤ ki d → 3 ≤ ki e → ki d = ki e := fun {d e x} r1 r2 h1 h2 => by
    have : ∃ a, x = .ref a := by
      cases d <;> simp only [ki] at h1 <;> first | omega | (obtain ⟨a, _, e, _⟩ := r1; exact ⟨a, e⟩)
    obtain ⟨a, rfl⟩ := this
    obtain ⟨o, q1, q2⟩ := kio_of r1 h1
    obtain ⟨o', q3, q4⟩ := kio_of r2 h2
    rw [q1] at q3
    cases q3
    exact q2.symm.trans q4
  by_cases h1 : 3 ≤ ki d
  · by_cases h2 : 3 ≤ ki e
    · exact key rd re h1 h2
    · exfalso
      have : ∃ a, x = .ref a := by
        cases d <;> simp only [ki] at h1 <;> first | omega | (obtain ⟨a, _, e, _⟩ := rd; exact ⟨a, e⟩)
      obtain ⟨a, rfl⟩ := this
      cases e <;> first | (exact he rfl) | (simp only [ki] at h2; omega) | cases re
  · by_cases h2 : 3 ≤ ki e
    · exfalso
      have : ∃ a, x = .ref a := by
        cases e <;> simp only [ki] at h2 <;> first | omega | (obtain ⟨a, _, e, _⟩ := re; exact ⟨a, e⟩)
      obtain ⟨a, rfl⟩ := this
      cases d <;> first | (exact hd rfl) | (simp only [ki] at h1; omega) | cases rd
    · cases d <;> first | (exact absurd rfl hd) | (simp only [ki] at h1; omega) | skip
      all_goals cases e <;> first | (exact absurd rfl he) | (simp only [ki] at h2; omega) | rfl | skip
      all_goals (simp only [Rep] at rd re; try subst rd; try cases re)
theorem deq_same (I : Inv X pins σ H s) : ∀ (n : Nat) (d e : D) (x : V) (b : Bool), deq n d e = some b → Rep X.K H d x → Rep X.K H e x → b = true
  | 0, d, e, x, b, h, rd, re => feq_same (H := H) (X := X) h rd re
  | n + 1, d, e, x, b, h, rd, re => by
    have ih := deq_same I n
    unfold deq at h
    split at h
    · rename_i xs ys
      obtain ⟨a, vs, rfl, h1, h2⟩ := rd
      obtain ⟨a', vs', e1, h3, h4⟩ := re
      cases e1
      rw [h1] at h3
      cases h3
      rw [if_pos (h2.len.trans h4.len.symm)] at h
      exact zipO_same ih h h2 h4
    · rename_i xs ys
      obtain ⟨a, vs, rfl, h1, h2⟩ := rd
      obtain ⟨a', vs', e1, h3, h4⟩ := re
      cases e1
      rw [h1] at h3
      cases h3
      obtain ⟨c, hc, e⟩ := Option.map_eq_some_iff.mp h
      rw [← e, zipO_same ih hc h2 h4, h2.len, h4.len]
      simp
    · rename_i ks ls
      obtain ⟨a, vs, rfl, h1, h2⟩ := rd
      obtain ⟨a', vs', e1, h3, h4⟩ := re
      cases e1
      obtain rfl := rd_uniq h1 h3
      obtain ⟨c, hc, e⟩ := Option.map_eq_some_iff.mp h
      have hn := (dict_at I h1).2
      obtain ⟨_, _, _, hn⟩ := hn
      have hkl : ks.length = ls.length := (pd_len (RepK.paired.mp h2)).trans (pd_len (RepK.paired.mp h4)).symm
      rw [← e, dctO_same ih h4 hn hc h2 fun p hp => hp]
      simp [hkl]
    · split at h
      · rename_i hm
        obtain ⟨m1, m2, m3, _⟩ := of_decide_eq_true hm
        exact absurd (ki_rep rd re m1 m2) m3
      · exact feq_same (H := H) (X := X) h rd re
/-! the comparison itself -/
theorem zip_run {f : D → D → Option Bool} {A : Around} (hf : ∀ d e x y v u b, f d e = some b → Rep X.K H d x → Rep X.K H e y → RelV x v → RelV y u → EqIn X.prog X.w A s v u b) : ∀ {xs ys : List D} {vs ws : List V} {us zs : List Value} {b : Bool}, zipO f xs ys = some b → Reps X.K H xs vs → Reps X.K H ys ws → Vals vs us → Vals ws zs →
    ∃ g : Nat → Bool, (∀ j (h1 : j < us.length) (h2 : j < zs.length), EqIn X.prog X.w A s us[j] zs[j] (g j)) ∧ (List.range (min us.length zs.length)).all g = b
  | [], ys, vs, ws, us, zs, b, h, hx, hy, r1, r2 => by
    cases h
    cases hx
    cases r1
    exact ⟨fun _ => true, fun j h1 => absurd h1 (Nat.not_lt_zero j), by simp⟩
  | x :: xs, [], vs, ws, us, zs, b, h, hx, hy, r1, r2 => by
    cases h
    cases hy
    cases r2
    exact ⟨fun _ => true, fun j _ h2 => absurd h2 (Nat.not_lt_zero j), by simp⟩
  | x :: xs, y :: ys, vs, ws, us, zs, b, h, hx, hy, r1, r2 => by
    obtain ⟨v, r, rfl, h1, h2⟩ := hx
    obtain ⟨v', r', rfl, h3, h4⟩ := hy
    cases r1 with
    | cons q1 t1 =>
      cases r2 with
      | cons q2 t2 =>
        unfold zipO at h
        split at h
        · rename_i p q hp hq
          cases h
          obtain ⟨g, g1, g2⟩ := zip_run hf hq h2 h4 t1 t2
          refine ⟨fun j => match j with | 0 => p | j + 1 => g j, fun j j1 j2 => ?_, ?_⟩
          · cases j with
            | zero => exact hf _ _ _ _ _ _ _ hp h1 h3 q1 q2
            | succ j => exact g1 j (Nat.lt_of_succ_lt_succ j1) (Nat.lt_of_succ_lt_succ j2)
          · rw [List.length_cons, List.length_cons, Nat.succ_min_succ, List.range_succ_eq_map, List.all_cons, List.all_map, ← g2]
            rfl
        · cases h
theorem dct_run {f : D → D → Option Bool} {A : Around} (hf : ∀ d e x y v u b, f d e = some b → Rep X.K H d x → Rep X.K H e y → RelV x v → RelV y u → EqIn X.prog X.w A s v u b) {ls : List (Key × D)} {ws : List (Key × V)} {vb : List (Key × Value)} (hl : RepK X.K H ls ws) (rb : KV ws vb) : ∀ {ks : List (Key × D)} {us : List (Key × V)} {va : List (Key × Value)} {b : Bool}, dctO f ls ks = some b → RepK X.K H ks us → KV us va →
    KeqHitsIn X.prog X.w A s vb va b
  | [], us, va, b, h, hx, ra => by
    cases h
    cases hx
    cases (show Paired _ [] va from ra)
    exact .nil
  | (k, x) :: r, us, va, b, h, hx, ra => by
    obtain ⟨v, us', rfl, h1, h2⟩ := hx
    cases (show Paired _ ((k, v) :: us') va from ra) with
    | @cons _ q _ va' e t =>
      obtain ⟨k', z⟩ := q
      obtain ⟨e1, e2⟩ := e
      have e1 : k = k' := e1
      cases e1
      have hr := valD_rep hl k
      have rr := rb.val k
      unfold dctO at h
      cases hd : valD ls k with
      | none =>
        rw [hd] at h hr
        have hr : valV ws k = none := hr
        rw [hr] at rr
        obtain ⟨c, hc, e⟩ := Option.map_eq_some_iff.mp h
        rw [← e]
        refine .miss ?_
        cases hv : valueAt vb k with
        | none => rfl
        | some y => rw [hv] at rr; exact rr.elim
      | some y =>
        rw [hd] at h hr
        obtain ⟨v', e3, e4⟩ := hr
        rw [e3] at rr
        obtain ⟨u, hu, ru⟩ := rr.some_of
        have h : (match f x y, dctO f ls r with | some a, some b => some (a && b) | _, _ => none) = some b := h
        split at h
        · rename_i p q hp hq
          cases h
          exact .hit hu (hf _ _ _ _ _ _ _ hp h1 e4 e2 ru) (dct_run hf hl rb hq h2 t)
        · cases h
theorem list_at (I : Inv X pins σ H s) {a : Addr} {vs : List V} (h : H a = some (.lst vs)) : ∃ us, Vals vs us ∧ s.heap.IsList a us.toArray := by
  obtain ⟨us, r1, p1, _⟩ := I.list (SqL.of h)
  exact ⟨us, r1, p1.isList⟩
theorem tuple_at (I : Inv X pins σ H s) {a : Addr} {vs : List V} (h : H a = some (.tup vs)) : ∃ us, Vals vs us ∧ s.heap.IsTuple a us.toArray := by
  obtain ⟨us, r1, p1, _⟩ := I.tuple (SqT.of h)
  exact ⟨us, r1, p1⟩
theorem refs_run (I : Inv X pins σ H s) {A : Around} {a a' : Addr} {b : Bool} (hs : a = a' → b = true) (h : ∀ (E Q : Value → Shared → Prop), Q (.bool b) s → wpAny (model X.prog X.w) A (richCompare .Eq (.ref a) (.ref a')) Q E s) : EqIn X.prog X.w A s (.ref a) (.ref a') b := by
  by_cases e : a = a'
  · rw [hs e]
    subst e
    exact (EqAt.same _).inModel _ _
  · exact EqIn.of_refs e h
/-- the rich comparison of two things with parts -/
theorem rc_run (I : Inv X pins σ H s) {n : Nat} {A : Around} (hu : A.units + (n + 1) < cLine) (ih : ∀ d e x y v u b, deq n d e = some b → Rep X.K H d x → Rep X.K H e y → RelV x v → RelV y u → EqIn X.prog X.w A.in1 s v u b) {d e : D} {a a' : Addr} {b : Bool} (hk : ki d = ki e) (hd : 3 ≤ ki d) (h : deq (n + 1) d e = some b) (rd : Rep X.K H d (.ref a)) (re : Rep X.K H e (.ref a')) (E Q : Value → Shared → Prop) :
    (Q (.bool b) s → wpAny (model X.prog X.w) A (richCompare .Eq (.ref a) (.ref a')) Q E s) ∧ (Q (.bool (!b)) s → wpAny (model X.prog X.w) A (richCompare .NotEq (.ref a) (.ref a')) Q E s) := by
  have hu0 : A.units < cLine := by omega
  unfold deq at h
  split at h
  · rename_i xs ys
    obtain ⟨_, vs, e1, h1, h2⟩ := rd
    cases e1
    obtain ⟨_, ws, e1, h3, h4⟩ := re
    cases e1
    obtain ⟨us, r1, p1⟩ := list_at I h1
    obtain ⟨zs, r2, p2⟩ := list_at I h3
    have l1 := h2.len
    have l2 := h4.len
    have l3 := r1.length
    have l4 := r2.length
    split at h
    · rename_i hlen
      obtain ⟨g, g1, g2⟩ := zip_run ih h h2 h4 r1 r2
      have hsz : us.toArray.size = zs.toArray.size := by simp; omega
      have he : ∀ j (j1 : j < us.toArray.size) (j2 : j < zs.toArray.size), EqIn X.prog X.w A.in1 s us.toArray[j] zs.toArray[j] (g j) := fun j j1 j2 => by simpa using g1 j (by simpa using j1) (by simpa using j2)
      have hb : (List.range us.toArray.size).all g = b := by
        rw [← g2]
        congr 2
        simp
        omega
      exact ⟨fun q => rcIn_lists p1 p2 hsz hu0 he (by rw [hb]; exact q), fun q => rcNe_lists p1 p2 hsz hu0 he E Q (by rw [hb]; exact q)⟩
    · rename_i hlen
      cases h
      have hsz : (us.toArray.size != zs.toArray.size) = true := by simp; omega
      exact ⟨fun q => RcAt.lists_lengths p1 p2 hsz hu0 _ _ E Q q, fun q => RcNeAt.lists_lengths p1 p2 hsz hu0 _ _ E Q q⟩
  · rename_i xs ys
    obtain ⟨_, vs, e1, h1, h2⟩ := rd
    cases e1
    obtain ⟨_, ws, e1, h3, h4⟩ := re
    cases e1
    obtain ⟨us, r1, p1⟩ := tuple_at I h1
    obtain ⟨zs, r2, p2⟩ := tuple_at I h3
    have l1 := h2.len
    have l2 := h4.len
    have l3 := r1.length
    have l4 := r2.length
    obtain ⟨c, hc, e⟩ := Option.map_eq_some_iff.mp h
    obtain ⟨g, g1, g2⟩ := zip_run ih hc h2 h4 r1 r2
    have he : ∀ j (j1 : j < us.toArray.size) (j2 : j < zs.toArray.size), EqIn X.prog X.w A.in1 s us.toArray[j] zs.toArray[j] (g j) := fun j j1 j2 => by simpa using g1 j (by simpa using j1) (by simpa using j2)
    have hb : ((List.range (min us.toArray.size zs.toArray.size)).all g && us.toArray.size == zs.toArray.size) = b := by
      rw [← e, ← g2, List.size_toArray, List.size_toArray, l1, l2, l3, l4]
      congr 1
    exact ⟨fun q => rcIn_tuples p1 p2 hu0 he (by rw [hb]; exact q), fun q => rcNe_tuples p1 p2 hu0 he E Q (by rw [hb]; exact q)⟩
  · rename_i ks ls
    obtain ⟨_, vs, e1, h1, h2⟩ := rd
    cases e1
    obtain ⟨_, ws, e1, h3, h4⟩ := re
    cases e1
    obtain ⟨ya, va, ra, da, _⟩ := dict_at I h1
    obtain ⟨yb, vb, rb, db, _⟩ := dict_at I h3
    obtain ⟨c, hc, e⟩ := Option.map_eq_some_iff.mp h
    have hits := dct_run ih h4 rb hc h2 ra
    have l1 : ks.length = vs.length := pd_len (RepK.paired.mp h2)
    have l2 : ls.length = ws.length := pd_len (RepK.paired.mp h4)
    have l3 := ra.length
    have l4 := rb.length
    have hb : (va.length == vb.length && c) = b := by
      rw [← e, l1, l2, l3, l4]
      congr 1
    exact ⟨fun q => keq_eqIn (knd := mixKind X.prog X.w) ya yb da db hu0 (fun _ => hits) (by rw [hb]; exact q), fun q => rcNe_dicts (knd := mixKind X.prog X.w) ya yb da db hu0 (fun _ => hits) E Q (by rw [hb]; exact q)⟩
  · rename_i n1 n2 n3
    exfalso
    cases d <;> simp only [ki] at hk hd <;> first | omega | skip
    all_goals cases e <;> simp only [ki] at hk <;> first | omega | skip
    · exact n1 _ _ rfl rfl
    · exact n2 _ _ rfl rfl
    · exact n3 _ _ rfl rfl
theorem rep_ref {d : D} {x : V} (h : Rep X.K H d x) (hd : 3 ≤ ki d) : ∃ a, x = .ref a := by
  cases d <;> simp only [ki] at hd <;> first | omega | skip
  all_goals
    obtain ⟨a, _, e, _⟩ := h
    exact ⟨a, e⟩
theorem mixed_run (I : Inv X pins σ H s) {A : Around} (hu : A.units < cLine) {d e : D} {x y : V} {v u : Value} (hm : mixed d e = true) (rd : Rep X.K H d x) (re : Rep X.K H e y) (rx : RelV x v) (ry : RelV y u) : EqIn X.prog X.w A s v u false := by
  obtain ⟨m1, m2, m3, m4⟩ := of_decide_eq_true hm
  clear hm
  cases d with
  | int i =>
    cases rd
    obtain ⟨t, rfl⟩ := rx
    cases e with
    | lst ys => obtain ⟨a, ws, rfl, h, _⟩ := re; cases ry; obtain ⟨us, _, p⟩ := list_at I h; exact (EqAt.int_list _ _ p hu).inModel _ _
    | tup ys => obtain ⟨a, ws, rfl, h, _⟩ := re; cases ry; obtain ⟨us, _, p⟩ := tuple_at I h; exact (EqAt.int_tuple _ _ p hu).inModel _ _
    | dct ys => obtain ⟨a, ws, rfl, h, _⟩ := re; cases ry; obtain ⟨_, va, _, p, _⟩ := dict_at I h; exact eq_id p _ _ hu
    | _ => simp [ki] at m1 m2 m3 m4
  | str i =>
    cases rd
    obtain ⟨t, rfl⟩ := rx
    cases e with
    | lst ys => obtain ⟨a, ws, rfl, h, _⟩ := re; cases ry; obtain ⟨us, _, p⟩ := list_at I h; exact (EqAt.str_list _ _ p hu).inModel _ _
    | tup ys => obtain ⟨a, ws, rfl, h, _⟩ := re; cases ry; obtain ⟨us, _, p⟩ := tuple_at I h; exact (EqAt.str_tuple _ _ p hu).inModel _ _
    | dct ys => obtain ⟨a, ws, rfl, h, _⟩ := re; cases ry; obtain ⟨_, va, _, p, _⟩ := dict_at I h; exact eq_sd p _ _ hu
    | _ => simp [ki] at m1 m2 m3 m4
  | lst xs =>
    obtain ⟨a, ws, rfl, h, _⟩ := rd
    cases rx
    obtain ⟨us, _, p⟩ := list_at I h
    cases e with
    | int i => cases re; obtain ⟨t, rfl⟩ := ry; exact (EqAt.list_int _ _ p hu).inModel _ _
    | str i => cases re; obtain ⟨t, rfl⟩ := ry; exact (EqAt.list_str _ _ p hu).inModel _ _
    | tup ys => obtain ⟨a, ws, rfl, h', _⟩ := re; cases ry; obtain ⟨us, _, p'⟩ := tuple_at I h'; exact (EqAt.list_tuple p p' hu).inModel _ _
    | dct ys => obtain ⟨a, ws, rfl, h', _⟩ := re; cases ry; obtain ⟨_, va, _, p', _⟩ := dict_at I h'; exact eq_ld p' p hu
    | _ => simp [ki] at m1 m2 m3 m4
  | tup xs =>
    obtain ⟨a, ws, rfl, h, _⟩ := rd
    cases rx
    obtain ⟨us, _, p⟩ := tuple_at I h
    cases e with
    | int i => cases re; obtain ⟨t, rfl⟩ := ry; exact (EqAt.tuple_int _ _ p hu).inModel _ _
    | str i => cases re; obtain ⟨t, rfl⟩ := ry; exact (EqAt.tuple_str _ _ p hu).inModel _ _
    | lst ys => obtain ⟨a, ws, rfl, h', _⟩ := re; cases ry; obtain ⟨us, _, p'⟩ := list_at I h'; exact (EqAt.tuple_list p p' hu).inModel _ _
    | dct ys => obtain ⟨a, ws, rfl, h', _⟩ := re; cases ry; obtain ⟨_, va, _, p', _⟩ := dict_at I h'; exact eq_td p' p hu
    | _ => simp [ki] at m1 m2 m3 m4
  | dct xs =>
    obtain ⟨a, ws, rfl, h, _⟩ := rd
    cases rx
    obtain ⟨_, va, _, p, _⟩ := dict_at I h
    cases e with
    | int i => cases re; obtain ⟨t, rfl⟩ := ry; exact eq_di p _ _ hu
    | str i => cases re; obtain ⟨t, rfl⟩ := ry; exact eq_ds p _ _ hu
    | lst ys => obtain ⟨a, ws, rfl, h', _⟩ := re; cases ry; obtain ⟨us, _, p'⟩ := list_at I h'; exact eq_dl p p' hu
    | tup ys => obtain ⟨a, ws, rfl, h', _⟩ := re; cases ry; obtain ⟨us, _, p'⟩ := tuple_at I h'; exact eq_dt p p' hu
    | _ => simp [ki] at m1 m2 m3 m4
  | _ => exact absurd rfl m1
theorem deq_run (I : Inv X pins σ H s) : ∀ (n : Nat) (A : Around), A.units + n < cLine → ∀ (d e : D) (x y : V) (v u : Value) (b : Bool), deq n d e = some b → Rep X.K H d x → Rep X.K H e y → RelV x v → RelV y u → EqIn X.prog X.w A s v u b
  | 0, A, hu, d, e, x, y, v, u, b, h, rd, re, rx, ry => (feq_at h rd re rx ry).inModel _ _
  | n + 1, A, hu, d, e, x, y, v, u, b, h, rd, re, rx, ry => by
    by_cases hk : ki d = ki e ∧ 3 ≤ ki d
    · obtain ⟨a, rfl⟩ := rep_ref rd hk.2
      obtain ⟨a', rfl⟩ := rep_ref re (hk.1 ▸ hk.2)
      cases (show v = Value.ref a from rx)
      cases (show u = Value.ref a' from ry)
      refine refs_run I (fun e1 => ?_) fun E Q q => (rc_run I hu (deq_run I n A.in1 (by show A.units + 1 + n < cLine; omega)) hk.1 hk.2 h rd re E Q).1 q
      subst e1
      exact deq_same I _ _ _ _ _ h rd re
    · unfold deq at h
      split at h
      · exact absurd ⟨rfl, (by simp [ki])⟩ hk
      · exact absurd ⟨rfl, (by simp [ki])⟩ hk
      · exact absurd ⟨rfl, (by simp [ki])⟩ hk
      · split at h
        · rename_i hm
          cases h
          exact mixed_run I (by omega) hm rd re rx ry
        · exact (feq_at h rd re rx ry).inModel _ _
end
/-! the operators -/
def rEqT (K : PySem.W.Frag) (n : Bool) : R2 := fun x y H Q => ∃ d e b, Rep K H d x ∧ Rep K H e y ∧ ki d = ki e ∧ 3 ≤ ki d ∧ deq 60 d e = some b ∧ Q (.bl (if n then !b else b)) H
theorem op_eqT {X : Cx} (hu : X.A.units + 64 < cLine) : OpR X (compareOp .Eq) (rEqT X.K false) := by
  intro pins s σ H x y v u Q I rx ry h
  obtain ⟨d, e, b, rd, re, hk, h3, hb, q⟩ := h
  obtain ⟨a, rfl⟩ := rep_ref rd h3
  obtain ⟨a', rfl⟩ := rep_ref re (hk ▸ h3)
  cases (show v = Value.ref a from rx)
  cases (show u = Value.ref a' from ry)
  exact (rc_run I (A := X.A) (n := 59) (by omega) (deq_run I 59 X.A.in1 (by show X.A.units + 1 + 59 < cLine; omega)) hk h3 hb rd re _ _).1 ⟨.bl b, H, I, rfl, q⟩
theorem op_neT {X : Cx} (hu : X.A.units + 64 < cLine) : OpR X (compareOp .NotEq) (rEqT X.K true) := by
  intro pins s σ H x y v u Q I rx ry h
  obtain ⟨d, e, b, rd, re, hk, h3, hb, q⟩ := h
  obtain ⟨a, rfl⟩ := rep_ref rd h3
  obtain ⟨a', rfl⟩ := rep_ref re (hk ▸ h3)
  cases (show v = Value.ref a from rx)
  cases (show u = Value.ref a' from ry)
  exact (rc_run I (A := X.A) (n := 59) (by omega) (deq_run I 59 X.A.in1 (by show X.A.units + 1 + 59 < cLine; omega)) hk h3 hb rd re _ _).2 ⟨.bl (!b), H, I, rfl, q⟩
def gEqT (n : Bool) : G2 := fun _ x y => match x, y with
  | .d d, .d e => if ki d = ki e ∧ 3 ≤ ki d then (deq 60 d e).map fun b => .d (.bl (if n then !b else b)) else none
  | _, _ => none
theorem opv_eqT {K : PySem.W.Frag} (n : Bool) : OpV K (rEqT K n) (gEqT n) := fun w x y vx vy z s hx hy e => by
  unfold gEqT at e
  split at e
  · rename_i d f
    split at e
    · rename_i hk
      obtain ⟨b, hb, e⟩ := Option.map_eq_some_iff.mp e
      subst e
      exact ⟨_, rfl, fun Q q => ⟨d, f, b, Rep.mono s.sub (show Rep K w.F d vx from hx), Rep.mono s.sub (show Rep K w.F f vy from hy), hk.1, hk.2, hb, q⟩⟩
    · cases e
  · cases e
def gEq (n : Bool) : G2 := fun μ x y => g2or (gEqF n) (gEqT n) μ x y
theorem od_eq {K : PySem.W.Frag} {X : Cx} (hu : X.A.units + 64 < cLine) (hK : X.K = K := by rfl) : OpD K X (compareOp .Eq) (qOr rEq (rEqT K false)) (gEq false) := by
  subst hK
  exact OpD.or od_eqF ⟨op_eqT hu, opv_eqT false⟩
theorem od_ne {K : PySem.W.Frag} {X : Cx} (hu : X.A.units + 64 < cLine) (hK : X.K = K := by rfl) : OpD K X (compareOp .NotEq) (qOr rNe (rEqT K true)) (gEq true) := by
  subst hK
  exact OpD.or od_neF ⟨op_neT hu, opv_eqT true⟩
end Fm
set_option Elab.async false
set_option linter.all false
set_option maxRecDepth 100000
namespace Fm
open PySem L2 PySem.Spec PyProof.Rows
theorem Bd.h64 {X : Cx} {E : XK} {k : Nat} (B : Bd X E k) : X.A.units + 64 < cLine := by have := B.room.un; omega
/-! ### a comprehension with two fors -/
def compI (g1 : GF) (tt1 : TF) (el : EF) (ρ1 : Rho) : List T → List T → M (List T)
  | [], acc => mret acc
  | x :: r, acc => mbind (noex (g1 x ρ1)) fun ρ2 => mbind (noex (tt1 ρ2)) fun b => if b = true then mbind (noex (el ρ2)) fun y => if acc.length < SL then compI g1 tt1 el ρ1 r (acc ++ [y]) else mstuck else compI g1 tt1 el ρ1 r acc
def compL2 (g : GF) (tt : TF) (vs1 : List Nat) (it1 : AF) (g1 : GF) (tt1 : TF) (el : EF) (ρ : Rho) : List T → List T → M Cell
  | [], acc => mret (.lst acc)
  | x :: r, acc => mbind (noex (g x ρ)) fun ρ1 => mbind (noex (tt ρ1)) fun b => if b = true then mbind (noex (it1 ρ1)) fun ys => mbind (compI g1 tt1 el (wipeR ρ1 vs1) ys acc) fun acc' => compL2 g tt vs1 it1 g1 tt1 el ρ r acc' else compL2 g tt vs1 it1 g1 tt1 el ρ r acc
def cComp2 (vs vs1 : List Nat) (it : AF) (g : GF) (tt : TF) (it1 : AF) (g1 : GF) (tt1 : TF) (el : EF) : CF := fun ρ => mbind (it ρ) fun xs => compL2 g tt vs1 it1 g1 tt1 el (wipeR ρ vs) xs []
/-- what is collected so far -/
structure Col (K : PySem.W.Frag) (w' : Wd) (D : Addr) (acc : List T) (w1 : Wd) : Prop where
  e : Ext w' w1
  s : StOk K w1
  a : D ∉ w1.A
  f : w1.F D = none
  h : ∃ us, w1.H D = some (.lst us) ∧ Paired (w1.t K) acc us
section
variable {K : PySem.W.Frag} {w' w1 w2 : Wd} {D : Addr} {acc : List T}
theorem Col.nl (c : Col K w' D acc w1) : ¬ w1.live D := fun ⟨_, _, k, _⟩ => c.a (List.mem_of_getElem? k)
theorem Col.ext (c : Col K w' D acc w1) (e2 : Ext w1 w2) (s2 : StOk K w2) : Col K w' D acc w2 := by
  obtain ⟨us, h1, h2⟩ := c.h
  exact ⟨c.e.trans e2, s2, fun k => c.a (e2.new D k (by rw [h1]; simp)), e2.capt D c.f (by rw [h1]; simp) c.nl, us, e2.keep D _ h1 c.nl, pd_imp (fun _ _ q => e2.t q) h2⟩
theorem Col.push (c : Col K w' D acc w1) (hD : w'.H D = none) {y : T} {v : V} (hy : w1.t K y v) {us : List V} (hu : w1.H D = some (.lst us)) : Col K w' D (acc ++ [y]) { w1 with H := upd w1.H D (.lst (us ++ [v])) } := by
  obtain ⟨us', h1, h2⟩ := c.h
  rw [h1] at hu
  cases hu
  exact ⟨out_ext (o := .lst (us ++ [v])) c.e hD, out_ok c.s c.a c.f, c.a, c.f, us ++ [v], upd_same, pd_app h2 (.cons hy .nil)⟩
theorem Col.zero (s : StOk K w') (hD : w'.H D = none) : Col K w' D [] { w' with H := upd w'.H D (.lst []) } := by
  obtain ⟨n1, n2, n3, n4⟩ := new_ok s (o := .lst []) hD
  exact ⟨n2, n1, n3, n4, [], upd_same, .nil⟩
end
/-- the inner loop's walk -/
theorem lc_it1 {J : It} {n : Nat} {G : Hp → Prop} {Y : Nat → Hp → V → Hp → Prop} (w : Walk J n G Y) {H0 : Hp} {Body : V → Hp → (Hp → Prop) → Prop} {Qd : Hp → Prop} (Pv : Nat → Hp → Prop) (h0 : Pv 0 H0) (hG : ∀ i H, i ≤ n → Pv i H → G H)
    (hs : ∀ i x H H', i < n → Pv i H → Y i H x H' → Body x H' (Pv (i + 1))) (hd : ∀ H, Pv n H → Qd H) :
    ∃ W : Nat → Nat → Hp → Prop, (∃ m, W 0 m H0) ∧ ∀ i m H, W i m H → (J.stop i H ∧ Qd H) ∨ (J.go i H ∧ ∃ Nx : Hp → Prop, (∀ H', Nx H' → ∃ m', m' < m ∧ W (i + 1) m' H') ∧ ∀ x H', J.yld i H x H' → Body x H' Nx) := by
  refine ⟨fun i m H => m = n - i ∧ i ≤ n ∧ Pv i H, ⟨n, by simp, Nat.zero_le _, h0⟩, ?_⟩
  rintro i m H ⟨rfl, hi, p⟩
  have q := hG i H hi p
  by_cases hlt : i < n
  · exact .inr ⟨w.goes i H hlt q, Pv (i + 1), fun H' p' => ⟨n - (i + 1), by omega, rfl, hlt, p'⟩, fun x H' y => hs i x H H' hlt p (w.yields i H x H' hlt q y)⟩
  · have e : i = n := by omega
    subst e
    exact .inl ⟨w.stops H q, hd H p⟩
section
variable {K : PySem.W.Frag} {E : XK}
/-- an iterable that stands whatever is written beside it -/
def IOkF (K : PySem.W.Frag) (E : XK) (wi : TI) (f : AF) : Prop := ∀ w σ ρ, EnvOk K w σ ρ → StOk K w → ∀ r, f ρ w.μ = some r → ∀ R : It → Hp → Prop,
  (∀ xs w' vs, r = .ok xs w'.μ → Ext w w' → StOk K w' → Paired (w'.t K) xs vs → ∀ J G Y, Walk J xs.length G Y → (∀ w1 : Wd, Same w'.F w1.F → StOk K w1 → G w1.H) → (∀ (i : Nat) (H : Hp) (x : V) (H' : Hp), Y i H x H' → H' = H ∧ vs[i]? = some x) → R J w'.H) →
  (∀ x w' cls d, r = .ex x w'.μ → Ext w w' → StOk K w' → ExnOk K w' x cls d → E cls d w'.H) → wi σ w.H R
structure PItF (K : PySem.W.Frag) (X : Cx) (E : XK) (tg e : Expr) (wi : TI) (f : AF) : Prop where
  pe : PI X tg e wi
  ok : IOkF K E wi f
theorem itF_lst {X : Cx} {tg e : Expr} {t : TE} {f : EF} (h : PD K X E e t f) (hK : X.K = K := by rfl) : PItF K X E tg e (iList K t) (iLst f) := by
  subst hK
  refine ⟨pi_list h.pe, fun w σ ρ ev s r er R q1 q2 => ?_⟩
  show t σ w.H fun x H1 => ∃ a, x = .ref a ∧ (∃ xs, SqL X.K H1 a xs) ∧ R (Itl X.K a) H1
  refine At.use (h.ok w σ ρ ev) s er _ (fun x w1 v _ er2 e1 s2 hx => ?_) q2
  have er2 : mof (lstD (rd w1.μ x)) w1.μ = some r := er2
  unfold mof at er2
  cases hl : lstD (rd w1.μ x) with
  | none => rw [hl] at er2; cases er2
  | some xs =>
    rw [hl] at er2
    cases er2
    obtain ⟨a, vs, h1, h2, h3⟩ := lstD_ok (rd_ok s2 hx) hl
    refine ⟨a, h1, ⟨vs, s2.sub.seq h2⟩, ?_⟩
    have wk := walk_list (K := X.K) (a := a) (xs := vs)
    rw [← pd_len h3] at wk
    exact q1 xs w1 vs rfl e1 s2 h3 _ _ _ wk (fun w2 e2 s3 => s3.sub.seq (e2.seq h2)) fun i H x H' y => y
theorem env_mono {w w' : Wd} {σ : L2.St} {ρ : Rho} (h : EnvOk K w σ ρ) (e : Same w.F w'.F) (p : w.A <+: w'.A) : EnvOk K w' σ ρ := ⟨h.1, fun i x hx => by
  obtain ⟨v, h1, h2⟩ := h.2 i x hx
  exact ⟨v, h1, RepT.mono e p h2⟩⟩
theorem comp_inner {is1 vs1 : List Nat} {g1 : TG} {tt1 : TT} {te : TE} {gf1 : GF} {tf1 : TF} {el : EF} (hg : GOk K is1 g1 gf1) (hgn : GNo gf1) (ht : BOk K E0 tt1 tf1) (he : EOk K E0 te el) (hs : ∀ i ∈ is1, i ∈ vs1)
    {w' w4 : Wd} {σ2 : L2.St} {ρ1 : Rho} {ys acc acc' : List T} {us : List V} {μ' : Mu} {J : It} {G : Hp → Prop} {Y : Nat → Hp → V → Hp → Prop} {D : Addr} (hD : w'.H D = none) (ev : EnvOk K w4 σ2 ρ1) (c4 : Col K w' D acc w4) (wk : Walk J ys.length G Y) (hp : Paired (w4.t K) ys us)
    (hG : ∀ w1 : Wd, Same w4.F w1.F → StOk K w1 → G w1.H) (hY : ∀ (i : Nat) (H : Hp) (x : V) (H' : Hp), Y i H x H' → H' = H ∧ us[i]? = some x)
    (er : compI gf1 tf1 el (wipeR ρ1 vs1) ys acc w4.μ = some (.ok acc' μ')) {Nx : Hp → Prop} (hN : ∀ w5, Col K w' D acc' w5 → w5.μ = μ' → Nx w5.H) :
    ∃ W1 : Nat → Nat → Hp → Prop, (∃ m, W1 0 m w4.H) ∧ ∀ j k H, W1 j k H → (J.stop j H ∧ Nx H) ∨ (J.go j H ∧ ∃ Nx1 : Hp → Prop, (∀ H', Nx1 H' → ∃ k', k' < k ∧ W1 (j + 1) k' H') ∧ ∀ x H', J.yld j H x H' → g1 x (wipe σ2 vs1) H' fun σ3 H5 => wipe σ3 vs1 = wipe σ2 vs1 ∧ tt1 σ3 H5 fun b H6 =>
        if b = true then te σ3 H6 fun y H7 => ∃ acc, H7 D = some (.lst acc) ∧ acc.length < sizeLine ∧ Nx1 (upd H7 D (.lst (acc ++ [y]))) else Nx1 H6) := by
  refine lc_it1 wk (Body := fun x H' Nx1 => g1 x (wipe σ2 vs1) H' fun σ3 H5 => wipe σ3 vs1 = wipe σ2 vs1 ∧ tt1 σ3 H5 fun b H6 =>
        if b = true then te σ3 H6 fun y H7 => ∃ acc, H7 D = some (.lst acc) ∧ acc.length < sizeLine ∧ Nx1 (upd H7 D (.lst (acc ++ [y]))) else Nx1 H6)
    (fun i H => ∃ (w1 : Wd) (ac : List T), w1.H = H ∧ Col K w' D ac w1 ∧ Same w4.F w1.F ∧ w4.A <+: w1.A ∧ compI gf1 tf1 el (wipeR ρ1 vs1) (ys.drop i) ac w1.μ = some (.ok acc' μ')) ?_ ?_ ?_ ?_
  · exact ⟨w4, acc, rfl, c4, Same.refl _, List.prefix_refl _, er⟩
  · rintro i H _ ⟨w1, ac, rfl, c1, e1, p1, _⟩
    exact hG w1 e1 c1.s
  · rintro i x H H' hlt ⟨w1, ac, rfl, c1, e1, p1, h6⟩ y
    obtain ⟨rfl, hx⟩ := hY i w1.H x H' y
    obtain ⟨t, hx, hr⟩ := pd_get' hp hx
    have hdrop : ys.drop i = t :: ys.drop (i + 1) := by
      obtain ⟨hl, e⟩ := List.getElem?_eq_some_iff.mp hx
      rw [List.drop_eq_getElem_cons hl, e]
    rw [hdrop] at h6
    have h6 : mbind (noex (gf1 t (wipeR ρ1 vs1))) (fun ρ2 => mbind (noex (tf1 ρ2)) fun b => if b = true then mbind (noex (el ρ2)) fun y => if ac.length < SL then compI gf1 tf1 el (wipeR ρ1 vs1) (ys.drop (i + 1)) (ac ++ [y]) else mstuck else compI gf1 tf1 el (wipeR ρ1 vs1) (ys.drop (i + 1)) ac) w1.μ = some (.ok acc' μ') := h6
    unfold mbind at h6
    cases hgf : noex (gf1 t (wipeR ρ1 vs1)) w1.μ with
    | none => rw [hgf] at h6; cases h6
    | some rg =>
      obtain ⟨ρ2, m2, rfl, hgf2⟩ := noex_some hgf
      obtain ⟨ρ3, hρ⟩ := hgn _ _ _ _ hgf2
      cases hρ
      rw [hgf] at h6
      have ev1 := env_mono ev e1 p1
      refine hg w1 (wipe σ2 vs1) (wipeR ρ1 vs1) t x ρ2 (env_wipe ev1 vs1) c1.s (RepT.mono e1 p1 hr) hgf2 _ fun σ3 hσ3 hk => ⟨wipe_keeps hk hs, ?_⟩
      refine At.use (E := E0) (at_noex (ht w1 σ3 ρ2 hσ3)) c1.s h6 _ (fun b w3 b' _ h9 e3 s3 hb => ?_) fun a w' cls d z _ _ _ => by cases z
      cases hb
      have c3 := c1.ext e3 s3
      have e3' : Same w4.F w3.F := e1.trans e3.sub
      have p3 : w4.A <+: w3.A := p1.trans e3.pre
      cases b with
      | false => exact ⟨w3, ac, rfl, c3, e3', p3, h9⟩
      | true =>
        refine At.use (E := E0) (at_noex (he w3 σ3 ρ2 (hσ3.ext e3))) s3 h9 _ (fun y w5 v _ h10 e5 s5 hy => ?_) fun a w' cls d z _ _ _ => by cases z
        have c5 := c3.ext e5 s5
        obtain ⟨us5, hu, hp5⟩ := c5.h
        by_cases hl : ac.length < SL
        · have h10 : (if ac.length < SL then compI gf1 tf1 el (wipeR ρ1 vs1) (ys.drop (i + 1)) (ac ++ [y]) else mstuck) w5.μ = some (.ok acc' μ') := h10
          rw [if_pos hl] at h10
          refine ⟨us5, hu, by rw [← pd_len hp5, sizeLine_eq]; exact hl, _, ac ++ [y], rfl, c5.push hD hy hu, e3'.trans e5.sub, p3.trans e5.pre, h10⟩
        · have h10 : (if ac.length < SL then compI gf1 tf1 el (wipeR ρ1 vs1) (ys.drop (i + 1)) (ac ++ [y]) else mstuck) w5.μ = some (.ok acc' μ') := h10
          rw [if_neg hl] at h10
          cases h10
  · rintro H ⟨w1, ac, rfl, c1, e1, p1, h6⟩
    rw [List.drop_length] at h6
    have h6 : some (Rs.ok ac w1.μ) = some (.ok acc' μ') := h6
    injection h6 with h6
    injection h6 with h7 h8
    subst h7
    exact hN w1 c1 h8
theorem mb_noex {α β : Type} {f : M α} {g : α → M β} {μ : Mu} {r : Rs β} (h : mbind (noex f) g μ = some r) : ∃ a m, f μ = some (.ok a m) ∧ g a m = some r := by
  unfold mbind at h
  cases hf : noex f μ with
  | none => rw [hf] at h; cases h
  | some q =>
    obtain ⟨a, m, rfl, e⟩ := noex_some hf
    rw [hf] at h
    exact ⟨a, m, e, h⟩
theorem compI_ok {g1 : GF} {tt1 : TF} {el : EF} {ρ1 : Rho} : ∀ {ys acc : List T} {μ : Mu} {r : Rs (List T)}, compI g1 tt1 el ρ1 ys acc μ = some r → ∃ a m, r = .ok a m
  | [], acc, μ, r, h => by cases h; exact ⟨_, _, rfl⟩
  | x :: ys, acc, μ, r, h => by
    obtain ⟨ρ2, m, _, h⟩ := mb_noex h
    obtain ⟨b, m2, _, h⟩ := mb_noex h
    cases b with
    | false => exact compI_ok (ys := ys) h
    | true =>
      obtain ⟨y, m3, _, h⟩ := mb_noex h
      by_cases hl : acc.length < SL
      · have h : (if acc.length < SL then compI g1 tt1 el ρ1 ys (acc ++ [y]) else mstuck) m3 = some r := h
        rw [if_pos hl] at h
        exact compI_ok h
      · have h : (if acc.length < SL then compI g1 tt1 el ρ1 ys (acc ++ [y]) else mstuck) m3 = some r := h
        rw [if_neg hl] at h
        cases h
theorem cok_comp2 {vs vs1 is is1 : List Nat} {wi wi1 : TI} {g g1 : TG} {tt tt1 : TT} {te : TE} {it it1 : AF} {gf gf1 : GF} {tf tf1 : TF} {el : EF} (hi : IOk K E wi it) (hg : GOk K is g gf) (hgn : GNo gf) (ht : BOk K E0 tt tf) (hs : ∀ i ∈ is, i ∈ vs)
    (hi1 : IOkF K E0 wi1 it1) (hg1 : GOk K is1 g1 gf1) (hgn1 : GNo gf1) (ht1 : BOk K E0 tt1 tf1) (he : EOk K E0 te el) (hs1 : ∀ i ∈ is1, i ∈ vs1) :
    COk K E (tLc2 wi g tt wi1 g1 tt1 te vs vs1) (cComp2 vs vs1 it gf tf it1 gf1 tf1 el) := fun w σ ρ ev s r er Q q1 q2 => by
  have er : mbind (it ρ) (fun xs => compL2 gf tf vs1 it1 gf1 tf1 el (wipeR ρ vs) xs []) w.μ = some r := er
  unfold mbind at er
  cases hf : it ρ w.μ with
  | none => rw [hf] at er; cases er
  | some r1 =>
    rw [hf] at er
    cases r1 with
    | ex y μ1 =>
      cases er
      exact hi w σ ρ ev s _ hf _ (fun _ _ z => by cases z) fun x w' cls d z => by cases z; exact q2 _ w' cls d rfl
    | ok xs μ1 =>
      refine hi w σ ρ ev s _ hf _ (fun xs' w' z e1 s1 J G Y wk yl => ?_) fun _ _ _ _ z => by cases z
      cases z
      intro D hD
      have er : compL2 gf tf vs1 it1 gf1 tf1 el (wipeR ρ vs) xs [] w'.μ = some r := er
      refine lc_it1 wk (Body := fun x H' Nx => g x (wipe σ vs) H' fun σ2 H2 => wipe σ2 vs = wipe σ vs ∧ tt σ2 H2 fun b H3 =>
    if b = true then wi1 σ2 H3 fun J1 H4 => ∃ W1 : Nat → Nat → Hp → Prop, (∃ m, W1 0 m H4) ∧ ∀ j k H, W1 j k H →
      (J1.stop j H ∧ Nx H) ∨ (J1.go j H ∧ ∃ Nx1 : Hp → Prop, (∀ H', Nx1 H' → ∃ k', k' < k ∧ W1 (j + 1) k' H') ∧ ∀ x H', J1.yld j H x H' → g1 x (wipe σ2 vs1) H' fun σ3 H5 => wipe σ3 vs1 = wipe σ2 vs1 ∧ tt1 σ3 H5 fun b H6 =>
        if b = true then te σ3 H6 fun y H7 => ∃ acc, H7 D = some (.lst acc) ∧ acc.length < sizeLine ∧ Nx1 (upd H7 D (.lst (acc ++ [y]))) else Nx1 H6)
    else Nx H3) (fun i H => ∃ (w1 : Wd) (ac : List T), w1.H = H ∧ Col K w' D ac w1 ∧ compL2 gf tf vs1 it1 gf1 tf1 el (wipeR ρ vs) (xs.drop i) ac w1.μ = some r) ?_ ?_ ?_ ?_
      · exact ⟨_, [], rfl, Col.zero s1 hD, er⟩
      · rintro i H _ ⟨w1, ac, rfl, c1, _⟩
        exact (yl w1 c1.e c1.s).1
      · rintro i x H H' hlt ⟨w1, ac, rfl, c1, h6⟩ y
        obtain ⟨w2, t, rfl, hμ, e2, s2, hx, hr⟩ := (yl w1 c1.e c1.s).2 i x H' hlt y
        have hdrop : xs.drop i = t :: xs.drop (i + 1) := by
          obtain ⟨hl, e⟩ := List.getElem?_eq_some_iff.mp hx
          rw [List.drop_eq_getElem_cons hl, e]
        rw [hdrop, ← hμ] at h6
        have c2 := c1.ext e2 s2
        have h6 : mbind (noex (gf t (wipeR ρ vs))) (fun ρ1 => mbind (noex (tf ρ1)) fun b => if b = true then mbind (noex (it1 ρ1)) fun ys => mbind (compI gf1 tf1 el (wipeR ρ1 vs1) ys ac) fun acc' => compL2 gf tf vs1 it1 gf1 tf1 el (wipeR ρ vs) (xs.drop (i + 1)) acc' else compL2 gf tf vs1 it1 gf1 tf1 el (wipeR ρ vs) (xs.drop (i + 1)) ac) w2.μ = some r := h6
        unfold mbind at h6
        cases hgf : noex (gf t (wipeR ρ vs)) w2.μ with
        | none => rw [hgf] at h6; cases h6
        | some rg =>
          obtain ⟨ρ1, m2, rfl, hgf2⟩ := noex_some hgf
          obtain ⟨ρ3, hρ⟩ := hgn _ _ _ _ hgf2
          cases hρ
          rw [hgf] at h6
          refine hg w2 (wipe σ vs) (wipeR ρ vs) t x ρ1 (env_wipe (ev.ext (e1.trans c2.e)) vs) s2 hr hgf2 _ fun σ2 hσ2 hk => ⟨wipe_keeps hk hs, ?_⟩
          refine At.use (E := E) (at_noex (ht w2 σ2 ρ1 hσ2)) s2 h6 _ (fun b w3 b' _ h9 e3 s3 hb => ?_) fun a w' cls d z e' => q2 a w' cls d z ((e1.trans c2.e).trans e')
          cases hb
          have c3 := c2.ext e3 s3
          cases b with
          | false => exact ⟨w3, ac, rfl, c3, h9⟩
          | true =>
            have h9 : mbind (noex (it1 ρ1)) (fun ys => mbind (compI gf1 tf1 el (wipeR ρ1 vs1) ys ac) fun acc' => compL2 gf tf vs1 it1 gf1 tf1 el (wipeR ρ vs) (xs.drop (i + 1)) acc') w3.μ = some r := h9
            unfold mbind at h9
            cases hit : noex (it1 ρ1) w3.μ with
            | none => rw [hit] at h9; cases h9
            | some ri =>
              obtain ⟨ys, m4, rfl, hit2⟩ := noex_some hit
              rw [hit] at h9
              refine hi1 w3 σ2 ρ1 (hσ2.ext e3) s3 _ hit2 _ (fun ys' w4 us z e4 s4 hp J1 G1 Y1 wk1 hG1 hY1 => ?_) fun _ _ _ _ z => by cases z
              cases z
              have c4 := c3.ext e4 s4
              dsimp only at h9
              cases hci : compI gf1 tf1 el (wipeR ρ1 vs1) ys ac w4.μ with
              | none => rw [hci] at h9; cases h9
              | some rc =>
                obtain ⟨acc', m5, rfl⟩ := compI_ok hci
                rw [hci] at h9
                refine comp_inner hg1 hgn1 ht1 he hs1 hD ((hσ2.ext e3).ext e4) c4 wk1 hp hG1 hY1 hci fun w5 c5 hm => ?_
                subst hm
                exact ⟨w5, acc', rfl, c5, h9⟩
      · rintro H ⟨w1, ac, rfl, c1, h6⟩
        rw [List.drop_length] at h6
        have h6 : some (Rs.ok (Cell.lst ac) w1.μ) = some r := h6
        cases h6
        obtain ⟨us, h3, h4⟩ := c1.h
        exact q1 (.lst ac) w1 (.ref D) rfl (e1.trans c1.e) c1.s ⟨D, rfl, e1.dom D hD, c1.a, rfl, c1.f, us, h3, h4⟩
end
section
variable {X : Cx} {E : XK} {K : PySem.W.Frag}
variable {elt tg iter tg1 iter1 : Expr} {ifs ifs1 : List Expr} {scope : Scope} {pos : Pos} {wi wi1 : TI} {g g1 : TG} {tt tt1 : TT} {te : TE} {it it1 : AF} {gf gf1 : GF} {tf tf1 : TF} {el : EF} {is is1 : List Nat} {k : Nat}
structure PLc2 (K : PySem.W.Frag) (X : Cx) (E : XK) (own : List (Str × Nat)) (vs1 : List Nat) (elt tg iter tg1 iter1 : Expr) (ifs ifs1 : List Expr) (scope : Scope) (wi : TI) (g : TG) (tt : TT) (wi1 : TI) (g1 : TG) (tt1 : TT) (te : TE) (f : CF) : Prop where
  calm : X.calm = true
  nd : X.N.Nodup
  hi : PI X tg iter wi
  blk : BlkOk X.N X.env.scope scope own
  hv : ∀ i ∈ vs1, i ∈ own.map (·.2)
  hg : ∀ (s : Shared) (H : Hp) (C : Addr) (cl : List (Str × Addr)) (fp : List Addr), PG (X.blk s H scope (compEnvC scope cl C X.env) fp) tg g
  ht : ∀ (s : Shared) (H : Hp) (C : Addr) (cl : List (Str × Addr)) (fp : List Addr), PTs (X.blk s H scope (compEnvC scope cl C X.env) fp) ifs tt
  hi1 : ∀ (s : Shared) (H : Hp) (C : Addr) (cl : List (Str × Addr)) (fp : List Addr), PI (X.blk s H scope (compEnvC scope cl C X.env) fp) tg1 iter1 wi1
  hg1 : ∀ (s : Shared) (H : Hp) (C : Addr) (cl : List (Str × Addr)) (fp : List Addr), PG (X.blk s H scope (compEnvC scope cl C X.env) fp) tg1 g1
  ht1 : ∀ (s : Shared) (H : Hp) (C : Addr) (cl : List (Str × Addr)) (fp : List Addr), PTs (X.blk s H scope (compEnvC scope cl C X.env) fp) ifs1 tt1
  he : ∀ (s : Shared) (H : Hp) (C : Addr) (cl : List (Str × Addr)) (fp : List Addr), PE (X.blk s H scope (compEnvC scope cl C X.env) fp) elt te
  ok : COk K E (tLc2 wi g tt wi1 g1 tt1 te (own.map (·.2)) vs1) f
theorem plc2 {own : List (Str × Nat)} (vs1 : List Nat) {N : List Str} {sc : Scope} (B : Bd X E k) (nd : X.N.Nodup) (hi : PIt K X E tg iter wi it) (blk : blkC N sc scope own = true)
    (hg : ∀ (s : Shared) (H : Hp) (C : Addr) (cl : List (Str × Addr)) (fp : List Addr), PGt K (X.blk s H scope (compEnvC scope cl C X.env) fp) is tg g gf)
    (ht : ∀ (s : Shared) (H : Hp) (C : Addr) (cl : List (Str × Addr)) (fp : List Addr), Bd (X.blk s H scope (compEnvC scope cl C X.env) fp) E0 k → PTF K (X.blk s H scope (compEnvC scope cl C X.env) fp) E0 ifs tt tf)
    (hi1 : ∀ (s : Shared) (H : Hp) (C : Addr) (cl : List (Str × Addr)) (fp : List Addr), Bd (X.blk s H scope (compEnvC scope cl C X.env) fp) E0 k → PItF K (X.blk s H scope (compEnvC scope cl C X.env) fp) E0 tg1 iter1 wi1 it1)
    (hg1 : ∀ (s : Shared) (H : Hp) (C : Addr) (cl : List (Str × Addr)) (fp : List Addr), PGt K (X.blk s H scope (compEnvC scope cl C X.env) fp) is1 tg1 g1 gf1)
    (ht1 : ∀ (s : Shared) (H : Hp) (C : Addr) (cl : List (Str × Addr)) (fp : List Addr), Bd (X.blk s H scope (compEnvC scope cl C X.env) fp) E0 k → PTF K (X.blk s H scope (compEnvC scope cl C X.env) fp) E0 ifs1 tt1 tf1)
    (he : ∀ (s : Shared) (H : Hp) (C : Addr) (cl : List (Str × Addr)) (fp : List Addr), Bd (X.blk s H scope (compEnvC scope cl C X.env) fp) E0 k → PD K (X.blk s H scope (compEnvC scope cl C X.env) fp) E0 elt te el)
    (hs : ∀ i ∈ is, i ∈ own.map (·.2) := by decide) (hs1 : ∀ i ∈ is1, i ∈ vs1 := by decide) (hv : ∀ i ∈ vs1, i ∈ own.map (·.2) := by decide) (eN : X.N = N := by rfl) (es : X.env.scope = sc := by rfl) : PLc2 K X E own vs1 elt tg iter tg1 iter1 ifs ifs1 scope wi g tt wi1 g1 tt1 te (cComp2 (own.map (·.2)) vs1 it gf tf it1 gf1 tf1 el) :=
  ⟨B.calm, nd, hi.pe, blkOk_by (by rw [eN, es]; exact blk), hv, fun s H C cl fp => (hg s H C cl fp).pe, fun s H C cl fp => (ht s H C cl fp (B.blk s H scope _ fp)).pe, fun s H C cl fp => (hi1 s H C cl fp (B.blk s H scope _ fp)).pe, fun s H C cl fp => (hg1 s H C cl fp).pe, fun s H C cl fp => (ht1 s H C cl fp (B.blk s H scope _ fp)).pe, fun s H C cl fp => (he s H C cl fp (B.blk s H scope _ fp)).pe,
    cok_comp2 hi.ok (hg X.s_0 (fun _ => none) 0 [] []).ok (hg X.s_0 (fun _ => none) 0 [] []).no (ht X.s_0 (fun _ => none) 0 [] [] (B.blk _ _ _ _ _)).ok hs (hi1 X.s_0 (fun _ => none) 0 [] [] (B.blk _ _ _ _ _)).ok (hg1 X.s_0 (fun _ => none) 0 [] []).ok (hg1 X.s_0 (fun _ => none) 0 [] []).no (ht1 X.s_0 (fun _ => none) 0 [] [] (B.blk _ _ _ _ _)).ok (he X.s_0 (fun _ => none) 0 [] [] (B.blk _ _ _ _ _)).ok hs1⟩
theorem pc_lc2 {own : List (Str × Nat)} {vs1 : List Nat} {f : CF} (h : PLc2 K X E own vs1 elt tg iter tg1 iter1 ifs ifs1 scope wi g tt wi1 g1 tt1 te f) (hs : ∀ x, foldedSetIterable iter X.env x = pure x := by intro _; rfl) (hs1 : ∀ env x, foldedSetIterable iter1 env x = pure x := by intro _ _; rfl) :
    PCr K X E (.ListComp elt [⟨tg, iter, ifs, 0⟩, ⟨tg1, iter1, ifs1, 0⟩] scope pos) (tLc2 wi g tt wi1 g1 tt1 te (own.map (·.2)) vs1) f :=
  ⟨pe_lc2 h.calm h.nd h.hi h.blk h.hv h.hg h.ht h.hi1 h.hg1 h.ht1 h.he hs hs1, h.ok⟩
theorem st_lc2 (i : Nat) {y : Str} {py : Pos} {own : List (Str × Nat)} {vs1 : List Nat} {spos : Pos} {f : CF} {fe : EF} (h : PLc2 K X E own vs1 elt tg iter tg1 iter1 ifs ifs1 scope wi g tt wi1 g1 tt1 te f) (hf : EOk K E (tLc2 wi g tt wi1 g1 tt1 te (own.map (·.2)) vs1) fe)
    (hsw : swapsWith (.ListComp elt [⟨tg, iter, ifs, 0⟩, ⟨tg1, iter1, ifs1, 0⟩] scope pos) (some (.Name y py)) spos.line X.env = pure true) (hy : X.N[i]? = some y := by rfl) (hyl : X.env.scope.names.lookup y = some .local := by rfl) (hs : ∀ x, foldedSetIterable iter X.env x = pure x := by intro _; rfl) (hs1 : ∀ env x, foldedSetIterable iter1 env x = pure x := by intro _ _; rfl) :
    PSt K X E (.Assign [.Name y py] (.ListComp elt [⟨tg, iter, ifs, 0⟩, ⟨tg1, iter1, ifs1, 0⟩] scope pos) spos) (tAsg (tLc2 wi g tt wi1 g1 tt1 te (own.map (·.2)) vs1) (gName i)) (sAsg fe (gN i)) :=
  ⟨ps_setLc2 h.calm h.nd hy hyl hsw h.hi h.blk h.hv h.hg h.ht h.hi1 h.hg1 h.ht1 h.he hs hs1, sok_asg hf (gok_n i) (gno_n i)⟩
end
end Fm
set_option Elab.async false
set_option linter.all false
set_option maxRecDepth 100000
/-! De3: < of tuples up to the first place that differs. -/
namespace Fm
open PySem L2 PySem.Spec PyProof.Rows PySem.SeqAt PySem.W
open AutoSeq1 (wpAny_loadPart')
open MeetsSeq MeetsSeq2 MeetsSeq3 SeqRoads2
def LtIn (prog : Program) (w : World) (A : Around) (s : Shared) (v u : Value) (k : Bool) : Prop := ∀ (E Q : Value → Shared → Prop), Q (.bool k) s → wpAny (model prog w) A (richCompare .Lt v u) Q E s
/-- place by place, up to the first that differs -/
inductive LtL (prog : Program) (w : World) (A : Around) (s : Shared) : List Value → List Value → Bool → Prop
  | nl {ys : List Value} : LtL prog w A s [] ys (decide (0 < ys.length))
  | nr {x : Value} {xs : List Value} : LtL prog w A s (x :: xs) [] false
  | eq {x y : Value} {xs ys : List Value} {b : Bool} (h : EqIn prog w A s x y true) (t : LtL prog w A s xs ys b) : LtL prog w A s (x :: xs) (y :: ys) b
  | ne {x y : Value} {xs ys : List Value} {b : Bool} (h : EqIn prog w A s x y false) (t : LtIn prog w A s x y b) : LtL prog w A s (x :: xs) (y :: ys) b
section
variable {prog : Program} {w : World} {l m : Addr} {xs ys : Array Value} {n1 n2 : Nat} {d1 d2 : Option Addr} {s1 s2 : Array (Option Value)} {k : Bool}
theorem ltTuple : MeetsIn prog w (Builtin.«tuple.__lt__» ⟨[.ref l, .ref m], []⟩)
      (fun A R s => s.heap.get? l = some (sqO "tuple" xs n1 d1 s1) ∧ s.heap.get? m = some (sqO "tuple" ys n2 d2 s2) ∧ LtL prog w A.in1 s xs.toList ys.toList k ∧ R (.ok (.ret (.bool k))) s) := by
  rintro A R ⟨hp, g, d, tk, os⟩ ⟨hl, hb, he, h⟩
  have f2 := AutoSeq1.sub_tuple_tuple
  let Z := xs.toList.zip ys.toList
  have hZ : Z.length = min xs.size ys.size := by simp [Z]
  wp_walk using wpAny_loadPart' hl, wpAny_loadPart' hb, wpAny_forIn_list _ (fun rest b s' => b.1 = none ∧ s' = ⟨hp, g, d, tk, os⟩ ∧ ∃ i, i ≤ Z.length ∧ rest = Z.drop i ∧ LtL prog w A.in1 ⟨hp, g, d, tk, os⟩ (xs.toList.drop i) (ys.toList.drop i) k) _
  case turn =>
    rintro ⟨y, x⟩ rest b s' ⟨hb', rfl, i, hi, hz, hR⟩
    have hlt : i < Z.length := by
      rcases Nat.lt_or_ge i Z.length with h' | h'
      · exact h'
      · rw [List.drop_of_length_le h'] at hz
        cases hz
    have hm : i < min xs.size ys.size := hZ ▸ hlt
    have g1 : i < xs.toList.length := Nat.lt_of_lt_of_le hm (Nat.min_le_left _ _)
    have g2 : i < ys.toList.length := Nat.lt_of_lt_of_le hm (Nat.min_le_right _ _)
    rw [List.drop_eq_getElem_cons hlt] at hz
    rw [List.drop_eq_getElem_cons g1, List.drop_eq_getElem_cons g2] at hR
    injection hz with hyx hrest
    have hy : y = xs.toList[i] := by simpa [Z] using congrArg Prod.fst hyx
    have hx : x = ys.toList[i] := by simpa [Z] using congrArg Prod.snd hyx
    rw [← hy, ← hx] at hR
    cases hR with
    | eq q t =>
      refine wpAny_bind (q _ _ ?_)
      wp_walk
      exact ⟨rfl, rfl, i + 1, hlt, hrest, t⟩
    | ne q t =>
      refine wpAny_bind (q _ _ ?_)
      have t2 : ∀ (E Q : Value → Shared → Prop), Q (.bool k) ⟨hp, g, d, tk, os⟩ → wpAny (model prog w) A.in1 (richCompare .Lt y x) Q E ⟨hp, g, d, tk, os⟩ := t
      wp_walk using t2
      simpa using h
  case fin =>
    rintro ⟨b1, b2⟩ s' ⟨hb', rfl, i, hi, hz, hR⟩
    simp only at hb'
    subst hb'
    have hge : min xs.size ys.size ≤ i := by
      rcases Nat.lt_or_ge i Z.length with h' | h'
      · rw [List.drop_eq_getElem_cons h'] at hz
        cases hz
      · exact hZ ▸ h'
    wp_walk
    have hi2 : i = min xs.size ys.size := by omega
    have hk : k = decide (xs.size < ys.size) := by
      subst hi2
      rcases Nat.lt_or_ge xs.size ys.size with q | q
      · rw [show xs.toList.drop (min xs.size ys.size) = [] from List.drop_of_length_le (by simp; omega)] at hR
        cases hR with
        | nl =>
          rw [List.length_drop, Array.length_toList]
          simp
          omega
      · rw [show ys.toList.drop (min xs.size ys.size) = [] from List.drop_of_length_le (by simp; omega)] at hR
        generalize xs.toList.drop (min xs.size ys.size) = z at hR
        cases hR with
        | nl => simp; omega
        | nr => simp; omega
    subst hk
    simpa [Builtin.Tuple.tupleCompareSizes] using h
  case h =>
    exact ⟨rfl, rfl, 0, Nat.zero_le _, rfl, he⟩
theorem rcLt_tuples {A : Around} {s : Shared} (hl : s.heap.IsTuple l xs) (hm : s.heap.IsTuple m ys) (hu : A.units < cLine) (h : LtL prog w A.in1 s xs.toList ys.toList k) : LtIn prog w A s (.ref l) (.ref m) k := fun E Q q => by
  obtain ⟨⟨cls, dd, data, sl⟩, ho, hc, n, hd⟩ := id hl
  obtain ⟨⟨cls2, dd2, data2, sl2⟩, ho2, hc2, n2, hd2⟩ := id hm
  simp only at hc hd hc2 hd2
  subst hc hd hc2 hd2
  exact wpAny_richCompare_same_room (T := "tuple") (op := .Lt) ⟨_, ho, rfl⟩ ⟨_, ho2, rfl⟩ PySem.F.slot_tuple_lt (call_meetsIn PySem.F.slot_tuple_lt ⟨_, ho, rfl⟩ PySem.F.entry_tuple_lt (PySem.F.args_tuple_lt_2 _ _) ltTuple
    ⟨ho, ho2, h, show Value.bool _ ≠ Value.notImplemented ∧ Q (.bool _) s from ⟨(fun x => nomatch x), q⟩⟩) hu
end
/-! ### of data -/
def flt : D → D → Option Bool
  | .int i, .int j => some (decide (i < j))
  | .str i, .str j => some (ltS i j)
  | .bl a, .bl b => some (!a && b)
  | _, _ => none
def ltLs (f g : D → D → Option Bool) : List D → List D → Option Bool
  | [], ys => some (decide (0 < ys.length))
  | _ :: _, [] => some false
  | x :: xs, y :: ys => match f x y with
    | some true => ltLs f g xs ys
    | some false => g x y
    | none => none
def dlt : Nat → D → D → Option Bool
  | 0, x, y => flt x y
  | n + 1, x, y => match x, y with
    | .tup xs, .tup ys => ltLs (deq n) (dlt n) xs ys
    | x, y => flt x y
section
variable {X : Cx} {pins : List (Addr × Obj)} {σ : L2.St} {H : Hp} {s : Shared}
theorem flt_at {A : Around} {d e : D} {x y : V} {v u : Value} {b : Bool} (h : flt d e = some b) (rd : Rep X.K H d x) (re : Rep X.K H e y) (rx : RelV x v) (ry : RelV y u) : LtIn X.prog X.w A s v u b := fun E Q q => by
  unfold flt at h
  split at h
  all_goals first
    | cases h
    | skip
  all_goals cases (show x = _ from rd)
  all_goals cases (show y = _ from re)
  · obtain ⟨t, rfl⟩ := rx; obtain ⟨t', rfl⟩ := ry; exact PyProof.Rows.lt_int q
  · obtain ⟨t, rfl⟩ := rx; obtain ⟨t', rfl⟩ := ry; exact PyProof.Rows.lt_str q
  · rename_i a b
    cases rx; cases ry
    refine PyProof.Rows.lt_bool ?_
    rw [show decide (PyProof.Rows.b2i a < PyProof.Rows.b2i b) = (!a && b) by cases a <;> cases b <;> rfl]
    exact q
theorem lts_run {f g : D → D → Option Bool} {A : Around} (hf : ∀ d e x y v u b, f d e = some b → Rep X.K H d x → Rep X.K H e y → RelV x v → RelV y u → EqIn X.prog X.w A s v u b) (hg : ∀ d e x y v u b, g d e = some b → Rep X.K H d x → Rep X.K H e y → RelV x v → RelV y u → LtIn X.prog X.w A s v u b) :
    ∀ {xs ys : List D} {vs ws : List V} {us zs : List Value} {b : Bool}, ltLs f g xs ys = some b → Reps X.K H xs vs → Reps X.K H ys ws → Vals vs us → Vals ws zs → LtL X.prog X.w A s us zs b
  | [], ys, vs, ws, us, zs, b, h, hx, hy, r1, r2 => by
    cases h
    cases hx
    cases r1
    rw [show ys.length = zs.length from hy.len.trans r2.length]
    exact .nl
  | x :: xs, [], vs, ws, us, zs, b, h, hx, hy, r1, r2 => by
    cases h
    cases hy
    cases r2
    obtain ⟨v, r, rfl, h1, h2⟩ := hx
    cases r1 with
    | cons q1 t1 => exact .nr
  | x :: xs, y :: ys, vs, ws, us, zs, b, h, hx, hy, r1, r2 => by
    obtain ⟨v, r, rfl, h1, h2⟩ := hx
    obtain ⟨v', r', rfl, h3, h4⟩ := hy
    cases r1 with
    | cons q1 t1 =>
      cases r2 with
      | cons q2 t2 =>
        unfold ltLs at h
        split at h
        · rename_i hp
          exact .eq (hf _ _ _ _ _ _ _ hp h1 h3 q1 q2) (lts_run hf hg h h2 h4 t1 t2)
        · rename_i hp
          exact .ne (hf _ _ _ _ _ _ _ hp h1 h3 q1 q2) (hg _ _ _ _ _ _ _ h h1 h3 q1 q2)
        · cases h
theorem dlt_run (I : Inv X pins σ H s) : ∀ (n : Nat) (A : Around), A.units + n < cLine → ∀ (d e : D) (x y : V) (v u : Value) (b : Bool), dlt n d e = some b → Rep X.K H d x → Rep X.K H e y → RelV x v → RelV y u → LtIn X.prog X.w A s v u b
  | 0, A, hu, d, e, x, y, v, u, b, h, rd, re, rx, ry => flt_at h rd re rx ry
  | n + 1, A, hu, d, e, x, y, v, u, b, h, rd, re, rx, ry => by
    unfold dlt at h
    split at h
    · rename_i xs ys
      obtain ⟨a, vs, rfl, h1, h2⟩ := rd
      obtain ⟨a', ws, rfl, h3, h4⟩ := re
      cases rx
      cases ry
      obtain ⟨us, r1, p1⟩ := tuple_at I h1
      obtain ⟨zs, r2, p2⟩ := tuple_at I h3
      have hu1 : A.in1.units + n < cLine := by show A.units + 1 + n < cLine; omega
      refine rcLt_tuples p1 p2 (by omega) ?_
      exact lts_run (deq_run I n A.in1 hu1) (dlt_run I n A.in1 hu1) h h2 h4 r1 r2
    · exact flt_at h rd re rx ry
end
def rLtA (K : PySem.W.Frag) : R2 := fun x y H Q => ∃ d e b, Rep K H d x ∧ Rep K H e y ∧ dlt 60 d e = some b ∧ Q (.bl b) H
theorem op_ltA {X : Cx} (hu : X.A.units + 64 < cLine) : OpR X (compareOp .Lt) (rLtA X.K) := by
  intro pins s σ H x y v u Q I rx ry h
  obtain ⟨d, e, b, rd, re, hb, q⟩ := h
  exact dlt_run I 60 X.A (by omega) d e x y v u b hb rd re rx ry _ _ ⟨.bl b, H, I, rfl, q⟩
def gLtT : G2 := fun _ x y => match x, y with
  | .d d, .d e => (dlt 60 d e).map fun b => .d (.bl b)
  | _, _ => none
theorem opv_ltA {K : PySem.W.Frag} : OpV K (rLtA K) gLtT := fun w x y vx vy z s hx hy e => by
  unfold gLtT at e
  split at e
  · rename_i d f
    obtain ⟨b, hb, e⟩ := Option.map_eq_some_iff.mp e
    subst e
    exact ⟨_, rfl, fun Q q => ⟨d, f, b, Rep.mono s.sub (show Rep K w.F d vx from hx), Rep.mono s.sub (show Rep K w.F f vy from hy), hb, q⟩⟩
  · cases e
theorem od_ltA {K : PySem.W.Frag} {X : Cx} (hu : X.A.units + 64 < cLine) (hK : X.K = K := by rfl) : OpD K X (compareOp .Lt) (rLtA K) gLtT := by
  subst hK
  exact ⟨op_ltA hu, opv_ltA⟩
/-! ### x in a list or tuple of flat things -/
def seqOf (μ : Mu) (y : T) : Option (List T) := match lstOf μ y with
  | some xs => some xs
  | none => (tupOf y).map fun ds => ds.map T.d
def flats : List T → Option (List V)
  | [] => some []
  | x :: r => match flat x, flats r with
    | some u, some us => some (u :: us)
    | _, _ => none
theorem flat_fl {x : T} {u : V} (h : flat x = some u) : flatV u = true := by
  unfold flat at h
  split at h <;> first | (cases h; rfl) | cases h
theorem flats_ok {K : PySem.W.Frag} {w : Wd} : ∀ {xs : List T} {vs us : List V}, Paired (w.t K) xs vs → flats xs = some us → vs = us ∧ us.all flatV = true
  | [], _, us, .nil, e => by cases e; exact ⟨rfl, rfl⟩
  | x :: xs, v :: vs, us, .cons h t, e => by
    unfold flats at e
    split at e
    · rename_i u us' h1 h2
      cases e
      obtain ⟨q1, q2⟩ := flats_ok t h2
      rw [flat_ok h h1, q1]
      refine ⟨rfl, ?_⟩
      rw [List.all_cons, flat_fl h1, q2]
      rfl
    · cases e
def gInQ (n : Bool) : G2 := fun μ x y => match flat x, (seqOf μ y).bind flats with
  | some u, some us => some (.d (.bl (if n then !inV u us else inV u us)))
  | _, _ => none
theorem seq_ok {K : PySem.W.Frag} {w : Wd} (s : StOk K w) {x : T} {v : V} {xs : List T} (h : w.t K x v) (e : seqOf w.μ x = some xs) : ∃ a vs, v = .ref a ∧ (SqL K w.H a vs ∨ SqT K w.H a vs) ∧ Paired (w.t K) xs vs := by
  unfold seqOf at e
  split at e
  · rename_i ys hl
    cases e
    obtain ⟨a, vs, h1, h2, h3⟩ := lst_ok s h hl
    exact ⟨a, vs, h1, .inl h2, h3⟩
  · obtain ⟨ds, hd, e⟩ := Option.map_eq_some_iff.mp e
    subst e
    obtain ⟨a, vs, h1, h2, h3⟩ := tup_ok s h hd
    exact ⟨a, vs, h1, .inr (.of h2), h3⟩
theorem opv_inQ {K : PySem.W.Frag} (n : Bool) : OpV K (rIn K n) (gInQ n) := fun w x y vx vy z s hx hy e => by
  unfold gInQ at e
  split at e
  · rename_i u us h1 h2
    cases e
    obtain ⟨ys, h3, h4⟩ := Option.bind_eq_some_iff.mp h2
    obtain ⟨a, vs, q1, q2, q3⟩ := seq_ok s hy h3
    obtain ⟨q4, q5⟩ := flats_ok q3 h4
    subst q4
    refine ⟨_, rfl, fun Q q => ⟨a, vs, q1, q2, ?_, q5, ?_⟩⟩
    · rw [flat_ok hx h1]; exact flat_fl h1
    · rw [flat_ok hx h1]; exact q
  · cases e
theorem od_inQ {K : PySem.W.Frag} {X : Cx} (hK : X.K = K := by rfl) : OpD K X (compareOp .In) (rIn K false) (gInQ false) := by
  subst hK
  exact ⟨op_in_seq, opv_inQ false⟩
theorem od_notInQ {K : PySem.W.Frag} {X : Cx} (hK : X.K = K := by rfl) : OpD K X (compareOp .NotIn) (rIn K true) (gInQ true) := by
  subst hK
  exact ⟨op_notIn_seq, opv_inQ true⟩
end Fm
set_option Elab.async false
set_option linter.all false
set_option maxRecDepth 100000
namespace Fm
open PySem L2 PySem.Spec PyProof.Rows
/-! ### what has become data, as data -/
def eRd (f : EF) : EF := fun ρ => mbind (f ρ) fun x μ => some (.ok (rd μ x) μ)
theorem pd_rd {X : Cx} {E : XK} {K : PySem.W.Frag} {e : Expr} {t : TE} {f : EF} (h : PD K X E e t f) : PD K X E e t (eRd f) := by
  refine ⟨h.pe, fun w σ ρ ev => ?_⟩
  have q := At.bind (u := fun v H Q => Q v H) (g := fun x μ => some (.ok (rd μ x) μ)) (R2 := RV K) rv_m (h.ok w σ ρ ev) fun x v w1 e1 s1 hx => by
    intro s r er Q k _
    cases er
    exact k _ w1 v rfl (Ext.refl _) s (rd_ok s hx)
  exact q
/-! ### dict(zip(xs, ys)) -/
def rDZ (K : PySem.W.Frag) : RCall := fun vs H Q => ∃ (a b : Addr) (ks : List Key) (ys : List V), vs = [.ref a, .ref b] ∧ SqL K H a (ks.map kV) ∧ SqL K H b ys ∧ ∀ p, H p = none → Q (.ref p) (upd H p (.dK (mergeK [] (ks.zip ys))))
theorem kz_rel {w : World} : ∀ {ks : List Key} {its its2 : List Value} {ys : List V}, Vals (ks.map kV) its → Vals ys its2 → KV (ks.zip ys) (ks.zip its2)
  | [], _, _, _, _, _ => .nil
  | _ :: _, _, _, [], _, r2 => by cases r2; exact .nil
  | k :: ks, _, _, y :: ys, r1, r2 => by
    cases r2 with
    | cons q2 t2 =>
      rw [List.map_cons] at r1
      cases r1 with
      | cons q1 t1 => exact .cons ⟨rfl, q2⟩ (kz_rel (w := w) t1 t2)
section
variable {X : Cx} {E : XK} {K : PySem.W.Frag} {e e2 : Expr} {ta : TA} {f : AF} {p p2 pos pos2 : Pos}
theorem pe_dictZip (hc : X.calm = true) (hmd : X.mg "dict" = none) (hmz : X.mg "zip" = none) (ha : PA X [e, e2] ta) (hgd : Gl X "dict") (hgz : Gl X "zip")
    (hsd : starEach [.Call (.Name "zip" p2) [e, e2] [] pos2] X.env = (false, eval (.Call (.Name "zip" p2) [e, e2] [] pos2) X.env) :: starEach [] X.env)
    (hs : starEach [e, e2] X.env = (false, eval e X.env) :: starEach [e2] X.env) (hpl : (backTo pos2 (starEach [e2] X.env)).any (·.1) = false) :
    PE X (.Call (.Name "dict" p) [.Call (.Name "zip" p2) [e, e2] [] pos2] [] pos) (tCB (rDZ X.K) ta) := by
  refine ⟨fun pins s σ H Q I h => ?_⟩
  refine wpAny_Call_Name_kw (ld_blt I hgd hmd PyProof.Rows.boot_dict ?_)
  refine PyProof.Rows.callWith_type1 ?_ hsd rfl
  rw [hsd]
  show wpAny _ _ (spliced ((false, eval (.Call (.Name "zip" p2) [e, e2] [] pos2) X.env) :: backTo pos (starEach [] X.env))) _ _ s
  refine Calls.spliced_cons ?_
  refine wpAny_Call_Name_kw (ld_blt I hgz hmz PyProof.Rows.boot_zip (PyProof.Rows.callWith_type1 (thn (ha.run pos2 pins s σ H _ I h) fun us s1 ⟨vs, H1, I1, r1, q1⟩ => ?_) hs hpl))
  obtain ⟨a, b, ks, ys, ex, hqx, hqy, q⟩ := q1
  subst ex
  cases r1 with
  | cons r rr =>
    cases rr with
    | cons r' rr =>
      cases rr
      cases r
      cases r'
      obtain ⟨its, rv, p1, z1⟩ := I1.list hqx
      obtain ⟨its2, rv2, p2, z2⟩ := I1.list hqy
      have la : a < s1.heap.objs.size := p1.lt
      have lb : b < s1.heap.objs.size := p2.lt
      refine call_zip_2 p1.isList p2.isList fun h' hz hTI hTO h1 h2 hsz hk => ?_
      refine Calls.spliced_nil ?_
      have l1 := rv.length
      have l2 := rv2.length
      rw [List.length_map] at l1
      have hlen : (ks.zip its2).length = min its.toArray.size its2.toArray.size := by simp [l1]
      refine PySem.call_dict_pairs (knd := mixKind X.prog X.w) (kvs := ks.zip its2) (PairArg.zip (s1.heap.objs.size + 4) (s1.heap.objs.size + 2) (s1.heap.objs.size + 3) s1.heap.objs.size (s1.heap.objs.size + 1) a b (PySem.W.ktu_apart s1.heap.objs.size a b la lb) its.toArray its2.toArray) (I.ok.hd hc)
        ⟨hz, hTI, ⟨_, _, hTO⟩, h1, h2, p1.isList.at fun o e => hk _ o e, p2.isList.at fun o e => hk _ o e⟩ ⟨hlen, ?_⟩ (by simp; omega) fun h'' tk hd keep => ?_
      · rintro i key v ⟨e1, e2⟩
        have e1 : its[i]? = some key := by simpa using e1
        have e2 : its2[i]? = some v := by simpa using e2
        obtain ⟨k0, g1, g2⟩ := pd_get' rv e1
        rw [List.getElem?_map] at g1
        obtain ⟨k, g3, g4⟩ := Option.map_eq_some_iff.mp g1
        subst g4
        exact ⟨k, List.getElem?_zip_eq_some.mpr ⟨g3, e2⟩, kV_is g2⟩
      · have hp : s1.heap.objs.size ≤ h'.objs.size := by omega
        have kp : ∀ b o, s1.heap.get? b = some o → h''.get? b = some o := fun c o e => by
          have lt := Heap.lt_size e
          refine keep c o ?_ (hk c o e)
          simp only [List.mem_cons, List.not_mem_nil, or_false, not_or]
          exact ⟨Nat.ne_of_lt (Nat.lt_of_lt_of_le lt (Nat.le_add_right _ _)), Nat.ne_of_lt (Nat.lt_of_lt_of_le lt (Nat.le_add_right _ _)), Nat.ne_of_lt lt, Nat.ne_of_lt (Nat.lt_of_lt_of_le lt (Nat.le_add_right _ _))⟩
        have hm : (h'.objs.size == sysModules) = false := beq_eq_false_iff_ne.mpr (Nat.ne_of_gt (Nat.lt_of_lt_of_le I1.big hp))
        have hz : (mergeK [] (ks.zip ys)).length ≤ sizeLine := by
          refine Nat.le_trans (length_mergeK _ []) ?_
          rw [List.length_nil, Nat.zero_add, List.length_zip]
          omega
        exact ⟨.ref h'.objs.size, upd H1 h'.objs.size (.dK (mergeK [] (ks.zip ys))), I1.laid (t' := tk) kp hp (dk_new hz hm ((kz_rel (w := X.w) rv rv2).merge .nil) hd), rfl, q _ (I1.hok.fresh hp)⟩
end
def keysT : List T → Option (List Key)
  | [] => some []
  | x :: r => match keyOf x, keysT r with
    | some k, some ks => some (k :: ks)
    | _, _ => none
theorem keysT_ok {K : PySem.W.Frag} {w : Wd} : ∀ {xs : List T} {vs : List V} {ks : List Key}, Paired (w.t K) xs vs → keysT xs = some ks → vs = ks.map kV
  | [], _, _, .nil, e => by cases e; rfl
  | x :: xs, v :: vs, ks, .cons h t, e => by
    unfold keysT at e
    split at e
    · rename_i k ks' h1 h2
      cases e
      rw [keysT_ok t h2, keyOf_ok h h1]
      rfl
    · cases e
theorem zip_pd {R : T → V → Prop} : ∀ {ks : List Key} {xs : List T} {vs : List V}, Paired R xs vs → Paired (fun p q => p.1 = q.1 ∧ R p.2 q.2) (ks.zip xs) (ks.zip vs)
  | [], _, _, _ => .nil
  | _ :: _, _, _, .nil => .nil
  | _ :: _, _, _, .cons a b => .cons ⟨rfl, a⟩ (zip_pd b)
def gDZ (μ : Mu) (xs : List T) : Option Cell := match xs with
  | [x, y] => match lstOf μ x, lstOf μ y with
    | some as, some bs => (keysT as).map fun ks => Cell.dct (mergeT [] (ks.zip bs))
    | _, _ => none
  | _ => none
theorem cn_dz {K : PySem.W.Frag} : CallN K (rDZ K) gDZ := fun w xs vs c s hx e => by
  unfold gDZ at e
  split at e
  · rename_i x y
    split at e
    · rename_i as bs h1 h2
      obtain ⟨ks, h3, e⟩ := Option.map_eq_some_iff.mp e
      subst e
      obtain ⟨v, u, rfl, hv, hu⟩ := two_of hx
      obtain ⟨a, av, a1, a2, a3⟩ := lst_ok s hv h1
      obtain ⟨b, bv, b1, b2, b3⟩ := lst_ok s hu h2
      have hk := keysT_ok a3 h3
      subst hk
      exact ⟨.dK (mergeK [] (ks.zip bv)), merge_ok (zip_pd b3) .nil, fun Q q => ⟨a, b, ks, bv, by rw [a1, b1], a2, b2, q⟩⟩
    · cases e
  · cases e
theorem pc_dictZip {X : Cx} {E : XK} {K : PySem.W.Frag} {e e2 : Expr} {ta : TA} {f : AF} {p p2 pos pos2 : Pos} (hmd : X.mg "dict" = none) (hmz : X.mg "zip" = none) (ha : PL K X E [e, e2] ta f) (hc : X.calm = true := by rfl) (hgd : Gl X "dict" := by rfl) (hgz : Gl X "zip" := by rfl)
    (hsd : starEach [.Call (.Name "zip" p2) [e, e2] [] pos2] X.env = (false, eval (.Call (.Name "zip" p2) [e, e2] [] pos2) X.env) :: starEach [] X.env := by rfl)
    (hs : starEach [e, e2] X.env = (false, eval e X.env) :: starEach [e2] X.env := by rfl) (hpl : (backTo pos2 (starEach [e2] X.env)).any (·.1) = false := by rfl) (hK : X.K = K := by rfl) :
    PCr K X E (.Call (.Name "dict" p) [.Call (.Name "zip" p2) [e, e2] [] pos2] [] pos) (tCB (rDZ K) ta) (cB gDZ f) := by
  subst hK
  exact ⟨pe_dictZip hc hmd hmz ha.pe hgd hgz hsd hs hpl, cok_B cn_dz ha.ok⟩
end Fm
set_option Elab.async false
set_option linter.all false
set_option maxRecDepth 100000
namespace Fm
open PySem L2 PySem.Spec PyProof.Rows
/-! ### classes -/
def clsC (K : PySem.W.Frag) (c : Str) : Addr := match PySem.W.nsIn K mainGlobals c with
  | some (some (.ref C)) => C
  | _ => 0
theorem clsC_of {K : PySem.W.Frag} {c : Str} {C : Addr} (h : clsAt K c C) : clsC K c = C := by
  unfold clsAt at h
  unfold clsC
  rw [h]
section
variable {X : Cx} {E : XK} {K : PySem.W.Frag}
/-! o.f -/
def fldT (μ : Mu) (c f : Str) (x : T) : Option T := match x with
  | .p n => match μ[n]? with
    | some (.obj c' fs) => if c' = c then fs.lookup f else none
    | _ => none
  | _ => none
def eFld (c f : Str) (e : EF) : EF := fun ρ => mbind (e ρ) fun x μ => mof (fldT μ c f x) μ
theorem lookup_pd {R : T → V → Prop} {f : Str} : ∀ {fs : List (Str × T)} {gs : List (Str × V)} {x : T}, Paired (fun p q => p.1 = q.1 ∧ R p.2 q.2) fs gs → fs.lookup f = some x → ∃ v, gs.lookup f = some v ∧ R x v
  | _, _, x, .nil, h => by cases h
  | (g, y) :: fs, (g', v) :: gs, x, .cons a t, h => by
    obtain ⟨e, r⟩ := a
    cases e
    rw [List.lookup_cons] at h ⊢
    split at h
    · rename_i q
      cases h
      exact ⟨v, rfl, r⟩
    · exact lookup_pd t h
theorem lookup_none {R : T → V → Prop} {f : Str} : ∀ {fs : List (Str × T)} {gs : List (Str × V)}, Paired (fun p q => p.1 = q.1 ∧ R p.2 q.2) fs gs → fs.lookup f = none → gs.lookup f = none
  | _, _, .nil, h => rfl
  | (g, y) :: fs, (g', v) :: gs, .cons a t, h => by
    obtain ⟨e, r⟩ := a
    cases e
    rw [List.lookup_cons] at h ⊢
    split at h
    · cases h
    · exact lookup_none t h
theorem objC_ok {w : Wd} (s : StOk K w) {n : Nat} {v : V} {c : Str} {fs : List (Str × T)} (h : w.t K (.p n) v) (e : w.μ[n]? = some (.obj c fs)) : ∃ a dx gs C, v = .ref a ∧ w.A[n]? = some a ∧ clsAt K c C ∧ w.F a = none ∧ w.H a = some (.ins C dx gs) ∧ Paired (fun p q => p.1 = q.1 ∧ w.t K p.2 q.2) fs gs := by
  obtain ⟨a, h1, h2⟩ := h
  obtain ⟨hF, dx, gs, C, hC, q1, q2⟩ := s.cell n a _ h1 e
  exact ⟨a, dx, gs, C, h2, h1, hC, hF, q1, q2⟩
theorem eok_fld {c f : Str} {t : TE} {g : EF} (hc : clsAt K c (clsC K c)) (cl : Cls K (clsC K c)) (na : NoAttr K (clsC K c) f) (h : EOk K E t g) : EOk K E (tFld K t f) (eFld c f g) := fun w σ ρ ev => by
  show At K E w (fun Q => t σ w.H fun x H1 => ∃ a C dx fs v, x = .ref a ∧ H1 a = some (.ins C dx fs) ∧ Cls K C ∧ NoAttr K C f ∧ fs.lookup f = some v ∧ Q v H1) _ _
  refine At.bind rv_m (h w σ ρ ev) fun x v w1 e1 s1 hx => ?_
  have q := At.pure (K := K) (E := E) (w := w1) (t := fun Q => ∃ a C dx fs v', v = .ref a ∧ w1.H a = some (.ins C dx fs) ∧ Cls K C ∧ NoAttr K C f ∧ fs.lookup f = some v' ∧ Q v' w1.H) (o := fldT w1.μ c f x) (R := RV K) fun s b hb => by
    unfold fldT at hb
    split at hb
    · rename_i n
      split at hb
      · rename_i c' fs hn
        split at hb
        · rename_i hcc
          subst hcc
          obtain ⟨a, dx, gs, C, h1, h2, h3, h4, h5, h6⟩ := objC_ok s hx hn
          obtain rfl := h3.uniq hc
          obtain ⟨u, q1, q2⟩ := lookup_pd h6 hb
          exact ⟨u, q2, fun Q q => ⟨a, _, dx, gs, u, h1, h5, cl, na, q1, q⟩⟩
        · cases hb
      · cases hb
    · cases hb
  exact q
theorem pd_fld {o : Expr} {c f : Str} {t : TE} {g : EF} {pos : Pos} (hc : clsAt K c (clsC K c)) (cl : Cls K (clsC K c)) (na : NoAttr K (clsC K c) f) (h : PD K X E o t g) (hb : attributeBase o f X.env (eval o X.env) = eval o X.env := by rfl) (hK : X.K = K := by rfl) : PD K X E (.Attribute o f pos) (tFld K t f) (eFld c f g) := by
  subst hK
  exact ⟨pe_fld h.pe hb, eok_fld hc cl na h.ok⟩
/-! o.f = v -/
def putFT (f : Str) (v : T) : List (Str × T) → List (Str × T)
  | [] => [(f, v)]
  | (g, x) :: r => if g = f then (g, v) :: r else (g, x) :: putFT f v r
theorem putF_pd {R : T → V → Prop} {f : Str} {x : T} {v : V} (hr : R x v) : ∀ {fs : List (Str × T)} {gs : List (Str × V)}, Paired (fun p q => p.1 = q.1 ∧ R p.2 q.2) fs gs → Paired (fun p q => p.1 = q.1 ∧ R p.2 q.2) (putFT f x fs) (putF f v gs)
  | _, _, .nil => .cons ⟨rfl, hr⟩ .nil
  | (g, y) :: fs, (g', u) :: gs, .cons a t => by
    obtain ⟨e, r⟩ := a
    have e : g = g' := e
    subst e
    unfold putFT putF
    by_cases q : g = f
    · rw [if_pos q, if_pos q]
      exact .cons ⟨rfl, hr⟩ t
    · rw [if_neg q, if_neg q]
      exact .cons ⟨rfl, r⟩ (putF_pd hr t)
def setF (c f : Str) (μ : Mu) (x v : T) : Option Mu := match x with
  | .p n => match μ[n]? with
    | some (.obj c' fs) => if c' = c ∧ fs.length < 1000 then some (μ.set n (.obj c (putFT f v fs))) else none
    | _ => none
  | _ => none
def sFldS (c f : Str) (fv fo : EF) : SF := fun ρ => mbind (fv ρ) fun y => mbind (fo ρ) fun x μ => match setF c f μ x y with
  | some μ' => some (.ok (.nx, ρ) μ')
  | none => none
theorem sok_fld {c f : Str} {tv to : TE} {fv fo : EF} (hc : clsAt K c (clsC K c)) (cl : Cls K (clsC K c)) (na : NoAttr K (clsC K c) f) (hv : EOk K E tv fv) (ho : EOk K E to fo) : SOk K E (sFld K to tv f) (sFldS c f fv fo) := fun w σ ρ ev s r e D P => by
  show tv σ w.H fun y H1 => to σ H1 fun x H2 => ∃ a C dx fs, x = .ref a ∧ H2 a = some (.ins C dx fs) ∧ Cls K C ∧ NoAttr K C f ∧ fs.length < 1000 ∧ D.nx σ (upd H2 a (.ins C dx (putF f y fs)))
  refine At.use (hv w σ ρ ev) s e _ (fun xv w1 v _ e1 x1 s1 hxv => ?_) P.2
  refine At.use (ho w1 σ ρ (ev.ext x1)) s1 e1 _ (fun xo w2 o _ e2 x2 s2 hxo => ?_) fun a w' cls d z e' => P.2 a w' cls d z (x1.trans e')
  have e2 : (match setF c f w2.μ xo xv with
    | some μ' => some (Rs.ok (Fl.nx, ρ) μ')
    | none => none) = some r := e2
  split at e2
  · rename_i μ' hμ
    cases e2
    unfold setF at hμ
    split at hμ
    · rename_i n
      split at hμ
      · rename_i c' fs hn
        split at hμ
        · rename_i hcc
          obtain ⟨hc1, hl⟩ := hcc
          subst hc1
          cases hμ
          obtain ⟨a, dx, gs, C, h1, h2, h3, h4, h5, h6⟩ := objC_ok s2 hxo hn
          obtain rfl := h3.uniq hc
          refine ⟨a, _, dx, gs, h1, h5, cl, na, by rw [← pd_len h6]; exact hl, ?_⟩
          obtain ⟨k1, k2⟩ := wr_ok s2 h2 hn rfl (c' := .obj c' (putFT f xv fs)) (o := .ins _ dx (putF f v gs)) rfl ⟨h4, dx, _, _, h3, upd_same, putF_pd (x2.t hxv) h6⟩
          exact P.1 .nx ρ _ rfl ((x1.trans x2).trans k2) k1 σ ((ev.ext (x1.trans x2)).ext k2)
        · cases hμ
      · cases hμ
    · cases hμ
  · cases e2
theorem st_fld {o value : Expr} {c f : Str} {tv to : TE} {fv fo : EF} {pos pos' : Pos} (hc : clsAt K c (clsC K c)) (cl : Cls K (clsC K c)) (na : NoAttr K (clsC K c) f) (hv : PD K X E value tv fv) (ho : PD K X E o to fo) (hs : swapsWith value (some (.Attribute o f pos')) pos.line X.env = pure false := by rfl) (hK : X.K = K := by rfl) :
    PSt K X E (.Assign [.Attribute o f pos'] value pos) (sFld K to tv f) (sFldS c f fv fo) := by
  subst hK
  exact ⟨ps_fld ho.pe hv.pe hs, sok_fld hc cl na hv.ok ho.ok⟩
/-! o.m(..) -/
structure FnM (P : Program) (w : World) (K : PySem.W.Frag) (mg : Str → Option Value) (base : Heap) (k : Nat) (c m : Str) (n : Nat) (fn : FN) : Prop where
  hc : clsAt K c (clsC K c)
  cl : Cls K (clsC K c)
  ex : ∃ (f : Addr) (fd : FuncData) (ps : List Str), Meth K (clsC K c) m f ∧ FnOk P w K mg base (L2.CX P w) k f fd ps (spM K n fn) ∧ Binds K fd ps [] ∧ ps.length = n
theorem FnM.mono {P : Program} {w : World} {mg : Str → Option Value} {base : Heap} {j k : Nat} {c m : Str} {n : Nat} {fn : FN} (h : FnM P w K mg base j c m n fn) (l : j ≤ k) : FnM P w K mg base k c m n fn :=
  let ⟨f, fd, ps, h1, h2, h3⟩ := h.ex
  ⟨h.hc, h.cl, f, fd, ps, h1, h2.mono l, h3⟩
def methT (μ : Mu) (c m : Str) (x : T) : Bool := match x with
  | .p n => match μ[n]? with
    | some (.obj c' fs) => decide (c' = c) && (fs.lookup m).isNone
    | _ => false
  | _ => false
def eMeth (c m : Str) (fn : FN) (fo : EF) (fa : AF) : EF := fun ρ => mbind (fo ρ) fun x μ => if methT μ c m x = true then mbind (fa ρ) (fun xs => fn (x :: xs)) μ else none
theorem eok_meth {c m : Str} {n : Nat} {fn : FN} {to : TE} {t : TA} {fo : EF} {fa : AF} (hc : clsAt K c (clsC K c)) (hn : ∀ ρ μ xs μ', fa ρ μ = some (.ok xs μ') → xs.length = n) (ho : EOk K E to fo) (ha : LOk K E t fa) : EOk K E (tMeth (clsC K c) m (spM K (n + 1) fn) [] E to t) (eMeth c m fn fo fa) := fun w σ ρ ev s r er Q q1 q2 => by
  show to σ w.H fun x H1 => ∃ a dx fs, x = .ref a ∧ H1 a = some (.ins (clsC K c) dx fs) ∧ fs.lookup m = none ∧ t σ H1 fun vs H2 => spM K (n + 1) fn (x :: (vs ++ [])) H2 Q E
  refine At.use (ho w σ ρ ev) s er _ (fun x w1 v hfo er1 e1 s1 hx => ?_) q2
  replace er1 : (if methT w1.μ c m x = true then mbind (fa ρ) (fun xs => fn (x :: xs)) w1.μ else none) = some r := er1
  by_cases hm : methT w1.μ c m x = true
  · rw [if_pos hm] at er1
    unfold methT at hm
    split at hm
    · rename_i nn
      split at hm
      · rename_i c' fs hk
        rw [Bool.and_eq_true, decide_eq_true_eq] at hm
        obtain ⟨hc', hl⟩ := hm
        subst hc'
        obtain ⟨a, dx, gs, C, h1, h2, h3, h4, h5, h6⟩ := objC_ok s1 hx hk
        obtain rfl := h3.uniq hc
        refine ⟨a, dx, gs, h1, h5, lookup_none h6 (by simpa using hl), ?_⟩
        refine At.use (ha w1 σ ρ (ev.ext e1)) s1 er1 _ (fun xs w2 vs hf er2 e2 s2 hxs => ?_) fun a w' cls d z e' => q2 a w' cls d z (e1.trans e')
        refine ⟨by rw [List.append_nil, List.length_cons, ← pd_len hxs, hn _ _ _ _ hf], w2, .p nn :: xs, r, rfl, s2, by rw [List.append_nil]; exact .cons (e2.t hx) hxs, er2, ?_, ?_⟩
        · exact fun a w3 b z e3 s3 k3 => q1 a w3 b z ((e1.trans e2).trans e3) s3 k3
        · exact fun x w3 cls d z e3 s3 k3 => q2 x w3 cls d z ((e1.trans e2).trans e3) s3 k3
      · cases hm
    · cases hm
  · rw [if_neg hm] at er1
    cases er1
theorem pd_meth {k n : Nat} {c m : Str} {o e : Expr} {es : List Expr} {apos pos : Pos} {fn : FN} {to : TE} {t : TA} {fo : EF} {f : AF} {pl : Sem Bool} (B : Bd X E k) (F : FnM X.prog X.w K X.mg X.base k c m (n + 1) fn) (ho : PD K X E o to fo) (ha : PL K X E (e :: es) t f) (hn : ALen f n) (hK : X.K = K := by rfl)
    (hst : starEach (e :: es) X.env = (false, eval e X.env) :: starEach es X.env := by rfl) (hpl : (backTo pos (starEach es X.env)).any (·.1) = false := by rfl)
    (ht : eval (.Call (.Attribute o m apos) (e :: es) [] pos) X.env = (do
      let ov ← eval o X.env
      standAt apos.atName
      let (f, first) ← holding [ov] (getMethod ov m pl)
      callWith pos f first (backTo pos (starEach (e :: es) X.env)) (backToKw pos (keywordEach [] X.env))) := by rfl) :
    PD K X E (.Call (.Attribute o m apos) (e :: es) [] pos) (tMeth (clsC K c) m (spM K (n + 1) fn) [] E to t) (eMeth c m fn fo f) := by
  subst hK
  obtain ⟨fa, fd, ps, h1, h2, h3, h4⟩ := F.ex
  exact ⟨pe_meth ho.pe F.cl h1 h2 B.room h3 .nil B.pas ha.pe hst hpl ht, eok_meth F.hc hn ho.ok ha.ok⟩
theorem pd_meth0 {k : Nat} {c m : Str} {o : Expr} {apos pos : Pos} {fn : FN} {to : TE} {fo : EF} {pl : Sem Bool} (B : Bd X E k) (F : FnM X.prog X.w K X.mg X.base k c m 1 fn) (ho : PD K X E o to fo) (hK : X.K = K := by rfl)
    (ht : eval (.Call (.Attribute o m apos) [] [] pos) X.env = (do
      let ov ← eval o X.env
      standAt apos.atName
      let (f, first) ← holding [ov] (getMethod ov m pl)
      callWith pos f first (backTo pos (starEach [] X.env)) (backToKw pos (keywordEach [] X.env))) := by rfl) :
    PD K X E (.Call (.Attribute o m apos) [] [] pos) (tMeth (clsC K c) m (spM K 1 fn) [] E to tNil) (eMeth c m fn fo aNil) := by
  subst hK
  obtain ⟨fa, fd, ps, h1, h2, h3, h4⟩ := F.ex
  exact ⟨pe_meth0 ho.pe F.cl h1 h2 B.room h3 .nil B.pas ht, eok_meth (n := 0) F.hc alen_nil ho.ok (pl_nil (X := X)).ok⟩
/-! C(..) -/
structure FnI (P : Program) (w : World) (K : PySem.W.Frag) (mg : Str → Option Value) (base : Heap) (k : Nat) (c : Str) (n : Nat) (fn : FN) : Prop where
  hc : clsAt K c (clsC K c)
  mgC : mg c = some (.ref (clsC K c))
  ex : ∃ (f : Addr) (fd : FuncData) (ps : List Str), Mk K (clsC K c) f ∧ FnOk P w K mg base (L2.CX P w) k f fd ps (spM K n fn) ∧ Binds K fd ps [] ∧ ps.length = n
theorem FnI.mono {P : Program} {w : World} {mg : Str → Option Value} {base : Heap} {j k : Nat} {c : Str} {n : Nat} {fn : FN} (h : FnI P w K mg base j c n fn) (l : j ≤ k) : FnI P w K mg base k c n fn :=
  let ⟨f, fd, ps, h1, h2, h3⟩ := h.ex
  ⟨h.hc, h.mgC, f, fd, ps, h1, h2.mono l, h3⟩
def eMake (c : Str) (fn : FN) (fa : AF) : EF := fun ρ => mbind (fa ρ) fun xs μ => match fn (.p μ.length :: xs) (μ ++ [.obj c []]) with
  | some (.ok (.d .non) μ') => some (.ok (.p μ.length) μ')
  | some (.ex x μ') => some (.ex x μ')
  | _ => none
theorem eok_make {c : Str} {n : Nat} {fn : FN} {t : TA} {fa : AF} (hc : clsAt K c (clsC K c)) (hn : ∀ ρ μ xs μ', fa ρ μ = some (.ok xs μ') → xs.length = n) (ha : LOk K E t fa) : EOk K E (tMake (clsC K c) (spM K (n + 1) fn) [] E t) (eMake c fn fa) := fun w σ ρ ev s r er Q q1 q2 => by
  show t σ w.H fun vs H1 => ∀ x dx, H1 x = none → H1 dx = none → dx ≠ x → spM K (n + 1) fn (.ref x :: (vs ++ [])) (upd (upd H1 dx (.own x)) x (.ins (clsC K c) dx [])) (fun v H2 => v = .non ∧ Q (.ref x) H2) E
  refine At.use (ha w σ ρ ev) s er _ (fun xs w1 vs hf er1 e1 s1 hxs => ?_) q2
  intro x dx nx ndx ne
  have er1 : (match fn (.p w1.μ.length :: xs) (w1.μ ++ [.obj c []]) with
    | some (.ok (.d .non) μ') => some (Rs.ok (T.p w1.μ.length) μ')
    | some (.ex x μ') => some (.ex x μ')
    | _ => none) = some r := er1
  obtain ⟨a1, a2, a3, a4⟩ := new_ok s1 (o := .own x) ndx
  have nx2 : upd w1.H dx (.own x) x = none := by rw [upd_ne (Ne.symm ne)]; exact nx
  obtain ⟨b1, b2, b3, b4⟩ := new_ok a1 (o := .ins (clsC K c) dx []) nx2
  have hcell : CellOk K { w1 with H := upd (upd w1.H dx (.own x)) x (.ins (clsC K c) dx []) } x (.obj c []) := ⟨b4, dx, [], _, hc, upd_same, .nil⟩
  have s2 := nw_ok b1 b3 rfl hcell
  have e2 := nw_ext b1 (a2.trans b2) (p := x) (c := .obj c []) nx
  have hp : (Wd.nw { w1 with H := upd (upd w1.H dx (.own x)) x (.ins (clsC K c) dx []) } x (.obj c [])).t K (.p w1.μ.length) (.ref x) := by
    refine ⟨x, ?_, rfl⟩
    show (w1.A ++ [x])[w1.μ.length]? = some x
    rw [← s1.len, List.getElem?_append_right (Nat.le_refl _), Nat.sub_self] <;> rfl
  have hlen : (V.ref x :: (vs ++ [])).length = n + 1 := by rw [List.append_nil, List.length_cons, ← pd_len hxs, hn _ _ _ _ hf]
  have hpd : Paired ((Wd.nw { w1 with H := upd (upd w1.H dx (.own x)) x (.ins (clsC K c) dx []) } x (.obj c [])).t K) (.p w1.μ.length :: xs) (V.ref x :: (vs ++ [])) := by
    rw [List.append_nil]
    exact .cons hp (pd_imp (fun _ _ h => e2.t h) hxs)
  split at er1
  · rename_i μ' hfn
    cases er1
    refine ⟨hlen, _, _, _, rfl, s2, hpd, hfn, fun a w3 b z e3 s3 hb => ?_, fun y w3 cls d z => by cases z⟩
    cases z
    refine ⟨hb, ?_⟩
    exact q1 (.p w1.μ.length) w3 (.ref x) rfl ((e1.trans e2).trans e3) s3 (e3.t hp)
  · rename_i y μ' hfn
    cases er1
    refine ⟨hlen, _, _, _, rfl, s2, hpd, hfn, (fun a w3 b z => by cases z), fun y w3 cls d z e3 s3 hx => ?_⟩
    cases z
    exact q2 _ w3 cls d rfl ((e1.trans e2).trans e3) s3 hx
  · cases er1
theorem pd_make {k n : Nat} {c : Str} {e : Expr} {es : List Expr} {p pos : Pos} {fn : FN} {t : TA} {f : AF} (B : Bd X E (k + 1)) (F : FnI X.prog X.w K X.mg X.base k c (n + 1) fn) (ha : PL K X E (e :: es) t f) (hn : ALen f n) (hg : Gl X c := by rfl) (hK : X.K = K := by rfl)
    (hdb : (c == ("__debug__" : Str)) = false := by decide) (he : starEach (e :: es) X.env = (false, eval e X.env) :: starEach es X.env := by rfl) (hpl : (backTo pos (starEach es X.env)).any (·.1) = false := by rfl) :
    PD K X E (.Call (.Name c p) (e :: es) [] pos) (tMake (clsC K c) (spM K (n + 1) fn) [] E t) (eMake c fn f) := by
  subst hK
  obtain ⟨fa, fd, ps, h1, h2, h3, h4⟩ := F.ex
  exact ⟨pe_make h1 h2 B.room hg F.mgC h3 .nil B.pas ha.pe hdb he hpl, eok_make F.hc hn ha.ok⟩
theorem pd_make0 {k : Nat} {c : Str} {p pos : Pos} {fn : FN} (B : Bd X E (k + 1)) (F : FnI X.prog X.w K X.mg X.base k c 1 fn) (hg : Gl X c := by rfl) (hK : X.K = K := by rfl) (hdb : (c == ("__debug__" : Str)) = false := by decide) :
    PD K X E (.Call (.Name c p) [] [] pos) (tMake (clsC K c) (spM K 1 fn) [] E tNil) (eMake c fn aNil) := by
  subst hK
  obtain ⟨fa, fd, ps, h1, h2, h3, h4⟩ := F.ex
  exact ⟨pe_make0 h1 h2 B.room hg F.mgC h3 .nil B.pas hdb, eok_make (n := 0) F.hc alen_nil (pl_nil (X := X)).ok⟩
end
end Fm
set_option Elab.async false
set_option linter.all false
set_option maxRecDepth 100000
namespace Fm
open PySem L2 PySem.Spec PyProof.Rows
section
variable {X : Cx} {E : XK} {K : PySem.W.Frag}
/-! ### freezing the cell that an expression tells -/
def eFr (f : EF) : EF := fun ρ => mbind (f ρ) fun x μ => match x with
  | .d y => some (.ok (.d y) μ)
  | .p n => match μ[n]? with
    | some (.frz y) => some (.ok (.d y) μ)
    | some c => match c.data μ with
      | some y => some (.ok (.d y) (μ.set n (.frz y)))
      | none => none
    | none => none
theorem eok_fr {t : TE} {f : EF} (h : EOk K E t f) : EOk K E t (eFr f) := fun w σ ρ ev s r er Q q1 q2 => by
  refine At.use (h w σ ρ ev) s er _ (fun x w1 v _ er1 e1 s1 hx => ?_) q2
  cases x with
  | d y =>
    have er1 : some (Rs.ok (T.d y) w1.μ) = some r := er1
    cases er1
    exact q1 _ w1 v rfl e1 s1 hx
  | p n =>
    have er1 : (match w1.μ[n]? with
      | some (.frz y) => some (Rs.ok (T.d y) w1.μ)
      | some c => match c.data w1.μ with
        | some y => some (.ok (.d y) (w1.μ.set n (.frz y)))
        | none => none
      | none => none) = some r := er1
    obtain ⟨a, h1, h2⟩ := id hx
    subst h2
    split at er1
    · rename_i y hy
      cases er1
      exact q1 _ w1 _ rfl e1 s1 (s1.cell n a _ h1 hy)
    · rename_i c hnf hc
      split at er1
      · rename_i y hy
        cases er1
        have hl : c.live = true := by
          cases c with
          | frz y => exact absurd rfl (hnf y)
          | _ => rfl
        obtain ⟨k1, k2⟩ := fz_cell s1 h1 hc hl hy
        have hR : CellOk K (w1.fz a (w1.μ.set n (.frz y))) a (.frz y) := k1.cell n a (.frz y) h1 (List.getElem?_set_self (List.getElem?_eq_some_iff.mp hc).1)
        exact q1 _ (w1.fz a (w1.μ.set n (.frz y))) _ rfl (e1.trans k2) k1 hR
      · cases er1
    · cases er1
theorem pd_fr {e : Expr} {t : TE} {f : EF} (h : PD K X E e t f) : PD K X E e t (eFr f) := ⟨h.pe, eok_fr h.ok⟩
/-! ### o.f op= v -/
theorem inop_of {op : Operator} {r : R2} (h : OpR X (inplaceOp op) r) : InOp X op r := fun pins s σ H x y u v Q I rx ry q => h pins s σ H x y u v Q I rx ry q
def sFldAug' (c f : Str) (g : G2) (fo fv : EF) : SF := fun ρ => mbind (fo ρ) fun x => mbind (fun μ => mof (fldT μ c f x) μ) fun u => mbind (fv ρ) fun y => mbind (stp g u y) fun z μ => match setF c f μ x z with
  | some μ' => some (.ok (.nx, ρ) μ')
  | none => none
theorem sok_fldaug {c f : Str} {to tv : TE} {fo fv : EF} {r2 : R2} {g : G2} (hc : clsAt K c (clsC K c)) (cl : Cls K (clsC K c)) (na : NoAttr K (clsC K c) f) (hg : OpV K r2 g) (ho : EOk K E to fo) (hv : EOk K E tv fv) : SOk K E (sFldAug K to tv r2 f) (sFldAug' c f g fo fv) := fun w σ ρ ev s r e D P => by
  show to σ w.H fun x H1 => ∃ a C dx fs v, x = .ref a ∧ H1 a = some (.ins C dx fs) ∧ Cls K C ∧ NoAttr K C f ∧ fs.lookup f = some v ∧ tv σ H1 fun y H2 => r2 v y H2 fun z H3 => ∃ dx' fs', H3 a = some (.ins C dx' fs') ∧ fs'.length < 1000 ∧ D.nx σ (upd H3 a (.ins C dx' (putF f z fs')))
  refine At.use (ho w σ ρ ev) s e _ (fun xo w1 o _ e1 x1 s1 hxo => ?_) P.2
  replace e1 : mbind (fun μ => mof (fldT μ c f xo) μ) (fun u => mbind (fv ρ) fun y => mbind (stp g u y) fun z μ => match setF c f μ xo z with
    | some μ' => some (Rs.ok (Fl.nx, ρ) μ')
    | none => none) w1.μ = some r := e1
  replace e1 : (match fldT w1.μ c f xo with
    | none => none
    | some u => (mbind (fv ρ) fun y => mbind (stp g u y) fun z μ => match setF c f μ xo z with
      | some μ' => some (Rs.ok (Fl.nx, ρ) μ')
      | none => none) w1.μ) = some r := by
    cases hf : fldT w1.μ c f xo with
    | none =>
      unfold mbind mof at e1
      dsimp only at e1
      rw [hf] at e1
      cases e1
    | some u =>
      unfold mbind mof at e1
      dsimp only at e1
      rw [hf] at e1
      exact e1
  cases hf : fldT w1.μ c f xo with
  | none => rw [hf] at e1; cases e1
  | some ux =>
    rw [hf] at e1
    unfold fldT at hf
    split at hf
    · rename_i n _
      split at hf
      · rename_i c' fs hn
        split at hf
        · rename_i hcc
          subst hcc
          obtain ⟨a, dx, gs, C, h1, h2, h3, h4, h5, h6⟩ := objC_ok s1 hxo hn
          obtain rfl := h3.uniq hc
          obtain ⟨u, q1, q2⟩ := lookup_pd h6 hf
          refine ⟨a, _, dx, gs, u, h1, h5, cl, na, q1, ?_⟩
          refine At.use (hv w1 σ ρ (ev.ext x1)) s1 e1 _ (fun y w2 v _ e2 x2 s2 hy => ?_) fun a w' cls d z e' => P.2 a w' cls d z (x1.trans e')
          refine At.use (at_stp (E := E) hg (x2.t q2) hy) s2 e2 _ (fun z w3 vz _ e3 x3 s3 hz => ?_) fun a w' cls d z e' => P.2 a w' cls d z ((x1.trans x2).trans e')
          have e3 : (match setF c' f w3.μ (.p n) z with
            | some μ' => some (Rs.ok (Fl.nx, ρ) μ')
            | none => none) = some r := e3
          split at e3
          · rename_i μ' hμ
            cases e3
            unfold setF at hμ
            dsimp only at hμ
            split at hμ
            · rename_i c2 fs2 hn2
              split at hμ
              · rename_i hcc2
                obtain ⟨hc2, hl2⟩ := hcc2
                subst hc2
                cases hμ
                obtain ⟨a2, dx2, gs2, C2, g1, g2, g3, g4, g5, g6⟩ := objC_ok s3 ((x2.trans x3).t hxo) hn2
                obtain rfl := g3.uniq hc
                have ea : a2 = a := V.ref.inj (g1.symm.trans h1)
                subst ea
                refine ⟨dx2, gs2, g5, by rw [← pd_len g6]; exact hl2, ?_⟩
                obtain ⟨k1, k2⟩ := wr_ok s3 g2 hn2 rfl (c' := .obj c2 (putFT f z fs2)) (o := .ins _ dx2 (putF f vz gs2)) rfl ⟨g4, dx2, _, _, g3, upd_same, putF_pd hz g6⟩
                exact P.1 .nx ρ _ rfl (((x1.trans x2).trans x3).trans k2) k1 σ ((ev.ext ((x1.trans x2).trans x3)).ext k2)
              · cases hμ
            · cases hμ
          · cases e3
        · cases hf
      · cases hf
    · cases hf
theorem st_fldaug {o value : Expr} {op : Operator} {c f : Str} {to tv : TE} {fo fv : EF} {r2 : R2} {g : G2} {pos tpos : Pos} (hc : clsAt K c (clsC K c)) (cl : Cls K (clsC K c)) (na : NoAttr K (clsC K c) f) (hop : IpD K X op r2 g) (ho : PD K X E o to fo) (hv : PD K X E value tv fv) (hK : X.K = K := by rfl) :
    PSt K X E (.AugAssign (.Attribute o f tpos) op value pos) (sFldAug K to tv r2 f) (sFldAug' c f g fo fv) := by
  subst hK
  exact ⟨ps_fldaug ho.pe hv.pe (inop_of hop.op), sok_fldaug hc cl na hop.ov ho.ok hv.ok⟩
/-! ### int(text) -/
def gIntS (_ : Mu) (xs : List T) : Option T := match xs with
  | [.d (.str a)] => if a.length ≤ 640 then (PySem.intText? a).map fun n => .d (.int n) else none
  | _ => none
theorem bi_intS : BI K X (.type "int") (fun xs H Q => ∃ a n, xs = [.str a] ∧ PySem.intText? a = some n ∧ a.length ≤ 640 ∧ Q (.int n) H) gIntS := ⟨call_int_str, fun w xs vs z s hx e => by
  unfold gIntS at e
  split at e
  · rename_i a
    obtain ⟨v, rfl, hv⟩ := one_of hx
    split at e
    · rename_i hl
      obtain ⟨n, hn, rfl⟩ := Option.map_eq_some_iff.mp e
      exact ⟨.int n, rfl, fun Q q => ⟨a, n, by rw [show v = .str a from hv], hn, hl, q⟩⟩
    · cases e
  · cases e⟩
/-! ### a dict of the module, texts to texts -/
structure KDs (K : PySem.W.Frag) (w : World) (mg : Str → Option Value) (x : Str) (kvs : List (Str × Str)) : Prop where
  ex : ∃ a, mg x = some (.ref a) ∧ ∀ k v, (k, v) ∈ kvs → KDct K w a k (.str v)
def kdA (mg : Str → Option Value) (x : Str) : Addr := match mg x with
  | some (.ref a) => a
  | _ => 0
def lkS (kvs : List (Str × Str)) (k : Str) : Option Str := match kvs with
  | [] => none
  | (a, v) :: r => if a = k then some v else lkS r k
theorem lkS_mem : ∀ {kvs : List (Str × Str)} {k v : Str}, lkS kvs k = some v → (k, v) ∈ kvs
  | [], _, _, h => by cases h
  | (a, u) :: r, k, v, h => by
    unfold lkS at h
    split at h
    · rename_i e
      cases h
      subst e
      exact List.mem_cons_self
    · exact List.mem_cons_of_mem _ (lkS_mem h)
def eKD (kvs : List (Str × Str)) (fi : EF) : EF := fun ρ => mbind (fi ρ) fun y => mof (match y with
  | .d (.str z) => (lkS kvs z).map fun v => .d (.str v)
  | _ => none)
theorem pd_kd {x : Str} {kvs : List (Str × Str)} {i : Expr} {ti : TE} {fi : EF} {p pos : Pos} (D : KDs K X.w X.mg x kvs) (hi : PD K X E i ti fi) (hg : Gl X x := by rfl) (hd : (x == ("__debug__" : Str)) = false := by decide) (hK : X.K = K := by rfl) (hs : PlainIx i := by exact fun _ _ => rfl) :
    PD K X E (.Subscript (.Name x p) i pos) (tOp (L2.rIxD K X.w) (tC (.ref (kdA X.mg x))) ti) (eKD kvs fi) := by
  subst hK
  obtain ⟨a, ha, hall⟩ := D.ex
  have ea : kdA X.mg x = a := by unfold kdA; rw [ha]
  rw [ea]
  refine ⟨pe_ix ix_kdict (pe_glob (v := .ref a) hg ha rfl hd) hi.pe hs, fun w σ ρ ev => ?_⟩
  show At X.K E w (fun Q => ti σ w.H fun y H2 => L2.rIxD X.K X.w (V.ref a) y H2 Q) _ _
  refine At.bind rv_m (hi.ok w σ ρ ev) fun y v w1 e1 s1 hy => ?_
  have q := At.pure (K := X.K) (E := E) (w := w1) (t := fun Q => L2.rIxD X.K X.w (V.ref a) v w1.H Q) (o := (match y with
    | .d (.str z) => (lkS kvs z).map fun v => T.d (.str v)
    | _ => none)) (R := RV X.K) fun s b hb => by
    split at hb
    · rename_i z
      obtain ⟨u, hu, rfl⟩ := Option.map_eq_some_iff.mp hb
      have hv : v = .str z := hy
      exact ⟨.str u, rfl, fun Q q => ⟨a, z, .str u, rfl, hv, hall z u (lkS_mem hu), q⟩⟩
    · cases hb
  exact q
/-! ### what is never reached -/
def sNever : SF := fun _ _ => none
theorem st_never {st : Stmt} : PSt K X E st tNever sNever := ⟨ps_never, fun w σ ρ ev s r e => by cases e⟩
theorem bl_never {sts : List Stmt} : PBl K X E sts tNever sNever := ⟨pss_never, fun w σ ρ ev s r e => by cases e⟩
end
/-! ### methods and makers -/
structure DxM (K : PySem.W.Frag) (c m qual : Str) (st : Stmt) (ps : List Str) : Prop where
  hc : clsAt K c (clsC K c)
  cl : Cls K (clsC K c)
  ex : ∃ (f : Addr) (fd : FuncData), Meth K (clsC K c) m f ∧ L2.Fun K m qual st f fd ∧ Binds K fd ps []
structure DxI (K : PySem.W.Frag) (mg : Str → Option Value) (c qual : Str) (st : Stmt) (ps : List Str) : Prop where
  hc : clsAt K c (clsC K c)
  mgC : mg c = some (.ref (clsC K c))
  ex : ∃ (f : Addr) (fd : FuncData), Mk K (clsC K c) f ∧ L2.Fun K "__init__" qual st f fd ∧ Binds K fd ps []
section
variable {P : Program} {w : World} {K : PySem.W.Frag} {mg : Str → Option Value} {base : Heap}
theorem okDM {c m qual : Str} {st : Stmt} {N ps : List Str} {k : Nat} {body : SF} (D : DxM K c m qual st ps) (S : FnScope N ps (defScope st))
    (hbody : ∀ (f : Addr) (cdv : Value) (A : Around) (outer : List Env) (s : Shared) (H : Hp) (E : XK), BdS (cxOf (L2.CX P w) P w K mg base N qual (defScope st) f cdv A outer s H E) E k → ∃ t, PBl K (cxOf (L2.CX P w) P w K mg base N qual (defScope st) f cdv A outer s H E) E (defBody st) t body) :
    FnM P w K mg base (k + 1) c m ps.length (fnB N.length body) := by
  obtain ⟨f, fd, hm, F, hb⟩ := D.ex
  exact ⟨D.hc, D.cl, f, fd, ps, hm, okF F S (hbody f), hb, rfl⟩
theorem okDI {c qual : Str} {st : Stmt} {N ps : List Str} {k : Nat} {body : SF} (D : DxI K mg c qual st ps) (S : FnScope N ps (defScope st))
    (hbody : ∀ (f : Addr) (cdv : Value) (A : Around) (outer : List Env) (s : Shared) (H : Hp) (E : XK), BdS (cxOf (L2.CX P w) P w K mg base N qual (defScope st) f cdv A outer s H E) E k → ∃ t, PBl K (cxOf (L2.CX P w) P w K mg base N qual (defScope st) f cdv A outer s H E) E (defBody st) t body) :
    FnI P w K mg base (k + 1) c ps.length (fnB N.length body) := by
  obtain ⟨f, fd, hm, F, hb⟩ := D.ex
  exact ⟨D.hc, D.mgC, f, fd, ps, hm, okF F S (hbody f), hb, rfl⟩
theorem dxm_mk {h : Heap} {c m qual : Str} {st : Stmt} {ps : List Str} {C f : Addr} {od an : Option Addr} {sl : Array (Option Value)} {oc kV doc pm cd ct : Value}
    (hC : PySem.W.nsIn K mainGlobals c = some (some (.ref C))) (cl : Cls K C)
    (a : PySem.W.findIn K (.ref C) m = some (some (.ref f))) (i : PySem.W.isFn K (.ref f) = true) (l : K.lookup f = some ⟨oc, od, .func (PySem.W.fnOf m qual (defArgs st) (defBody st) (defScope st) .none kV doc pm an cd ct), sl⟩) (cc : PySem.W.codeIn K cd qual = true) (k : PySem.W.keepIn K (.ref f) = true)
    (hb : ∀ (kV doc pm : Value) (an : Option Addr) (cdv ct : Value) (us : List Value), us.length = ps.length → bindArgs (PySem.W.fnOf m qual (defArgs st) (defBody st) (defScope st) .none kV doc pm an cdv ct) ⟨us, []⟩ = pure (ps.zip us)) : DxM K c m qual st ps := by
  have e := clsC_of (K := K) (c := c) hC
  exact ⟨by rw [e]; exact hC, by rw [e]; exact cl, f, _, by rw [e]; exact ⟨a, i, k⟩, fun_mk l cc k, (fun_mk l cc k).binds hb⟩
theorem dxi_mk {h : Heap} {c qual : Str} {st : Stmt} {ps : List Str} {C f : Addr} {od an : Option Addr} {sl : Array (Option Value)} {oc kV doc pm cd ct : Value} (X : K.In h) (G : h.Ns mainGlobals mg)
    (hC : PySem.W.nsIn K mainGlobals c = some (some (.ref C))) (mk : PySem.W.makesIn K C = true) (kc : PySem.W.keepIn K (.ref C) = true)
    (a : PySem.W.findIn K (.ref C) "__init__" = some (some (.ref f))) (i : PySem.W.isFn K (.ref f) = true) (l : K.lookup f = some ⟨oc, od, .func (PySem.W.fnOf "__init__" qual (defArgs st) (defBody st) (defScope st) .none kV doc pm an cd ct), sl⟩) (cc : PySem.W.codeIn K cd qual = true) (k : PySem.W.keepIn K (.ref f) = true)
    (hb : ∀ (kV doc pm : Value) (an : Option Addr) (cdv ct : Value) (us : List Value), us.length = ps.length → bindArgs (PySem.W.fnOf "__init__" qual (defArgs st) (defBody st) (defScope st) .none kV doc pm an cdv ct) ⟨us, []⟩ = pure (ps.zip us)) : DxI K mg c qual st ps := by
  have e := clsC_of (K := K) (c := c) hC
  exact ⟨by rw [e]; exact hC, by rw [e]; exact PySem.W.mg_of X G hC, f, _, by rw [e]; exact ⟨mk, a, i, kc⟩, fun_mk l cc k, (fun_mk l cc k).binds hb⟩
theorem kds_mk {h : Heap} {x : Str} {d : Addr} {es : Array DictEntry} {n : Nat} {kvs : List (Str × Str)} (X : K.In h) (G : h.Ns mainGlobals mg) (a : PySem.W.nsIn K mainGlobals x = some (some (.ref d))) (l : K.lookup d = some ⟨.type "dict", none, .dict es n, #[]⟩) (hk : PySem.W.KeysLit w.params es.toList)
    (hv : ∀ k v, (k, v) ∈ kvs → ∃ t, PySem.W.nsIn K d k = some (some (.str v t))) : KDs K w mg x kvs := ⟨d, PySem.W.mg_of X G a, fun k v hm => let ⟨t, e⟩ := hv k v hm; ⟨es, n, _, l, hk, e, ⟨t, rfl⟩⟩⟩
end
/-- what stands of a class -/
structure ClsD (K : PySem.W.Frag) (c : Str) (fs : List Str) : Prop where
  hc : clsAt K c (clsC K c)
  cl : Cls K (clsC K c)
  na : ∀ f ∈ fs, NoAttr K (clsC K c) f
theorem clsd_mk {K : PySem.W.Frag} {c : Str} {C : Addr} {fs : List Str} (hC : PySem.W.nsIn K mainGlobals c = some (some (.ref C))) (cl : Cls K C) (na : ∀ f ∈ fs, PySem.W.findIn K (.ref C) f = some none) : ClsD K c fs := by
  have e := clsC_of (K := K) (c := c) hC
  exact ⟨by rw [e]; exact hC, by rw [e]; exact cl, by rw [e]; exact na⟩
end Fm
set_option Elab.async false
set_option linter.all false
set_option maxRecDepth 100000
namespace Fm
open PySem L2 PySem.Spec PyProof.Rows
abbrev veB : List Value := [.type "ValueError", .type "Exception", .type "BaseException", .type "object"]
/-- an own class of errors without an __init__ of its own -/
structure ExK (K : PySem.W.Frag) (mg : Str → Option Value) (c : Str) : Prop where
  hc : clsAt K c (clsC K c)
  mgC : mg c = some (.ref (clsC K c))
  ex : PySem.W.excIn K (clsC K c) veB "ValueError.__new__" = true
  kp : PySem.W.keepIn K (.ref (clsC K c)) = true
  sub : PySem.W.subIn K (.ref (clsC K c)) (.type "BaseException") = some true
  ty : PySem.W.typeIn K (.ref (clsC K c)) = some (.type "type")
section
variable {X : Cx} {E : XK} {K : PySem.W.Frag}
theorem pmk_own0 {x : Str} {C : Addr} {bmB : List Value} {B newId initId : String} {p pos : Pos} (F : ExcBaseFacts B newId initId bmB) (q : PySem.W.excIn X.K C bmB newId = true) (gC : X.mg x = some (.ref C)) (kC : PySem.W.keepIn X.K (.ref C) = true) (r : Raises X (.ref C)) (hg : Gl X x)
    (hdb : (x == ("__debug__" : Str)) = false := by decide) : PMk X (.Call (.Name x p) [] [] pos) (fun _ H Q => Q (.ref C) none H) := by
  intro pins s σ H Q I h
  refine wpAny_Call_Name_kw (ld_glob I hg gC ?_ hdb)
  refine PySem.W.callWith_K0 (first := []) I.kIn kC ?_
  show wpAny _ _ (call (.ref C) []) _ _ _
  obtain ⟨bm, N, nm, qn, bs, hdct, sn, sub, ab, col, dd, k0, k1, k2, k3, k5, mN, hC, hN, hni, T⟩ := exc_obj I.kIn q
  refine wpAny_call_exc_subT F T hC hN hni (fun h' e hm => ?_) (by show 0 ≤ sizeLine; rw [sizeLine_eq]; omega)
  exact mk_of I hm r h (I.hok.gone hm.new)
/-- raise C() -/
def sRaise0 (c : Str) : SF := fun _ μ => some (.ex ⟨c, none⟩ μ)
theorem st_raise0 {c : Str} {p pos pos' : Pos} (D : ExK K X.mg c) (hc : X.calm = true) (tk : Takes X (fun cls d _ H => E cls d H)) (hg : Gl X c := by rfl) (hK : X.K = K := by rfl) (hdb : (c == ("__debug__" : Str)) = false := by decide) :
    PSt K X E (.Raise (some (.Call (.Name c p) [] [] pos)) none pos') (fun _ _ H => E (.ref (clsC K c)) none H) (sRaise0 c) := by
  subst hK
  refine ⟨ps_raise hc tk (pmk_own0 PySem.F.excBase_ValueError D.ex D.mgC D.kp (raises_own D.sub D.ty) hg hdb), fun w σ ρ ev s r e D' P => ?_⟩
  cases e
  exact P.2 ⟨c, none⟩ w (.ref (clsC X.K c)) none rfl (Ext.refl w) s ⟨⟨_, D.hc, rfl⟩, rfl⟩
end
/-! ### an expression within a try: what it raises is wished for at the slots -/
structure PDS (K : PySem.W.Frag) (X : Cx) (e : Expr) (t : WX → TE) (f : EF) : Prop where
  pe : ∀ (W : WX) (pn : List (Addr × Obj)) (xe : Value → Shared → Prop), Takes (X.tr pn xe) W → PE (X.tr pn xe) e (t W)
  ok : ∀ (W : WX) (w : Wd) (σ : L2.St) (ρ : Rho), EnvOk K w σ ρ → At K (fun cls d H => W cls d σ H) w (t W σ w.H) (f ρ) (RV K)
structure PTb (K : PySem.W.Frag) (X : Cx) (body : List Stmt) (tb : WX → TS) (f : SF) : Prop where
  pe : ∀ (W : WX) (pn : List (Addr × Obj)) (xe : Value → Shared → Prop), Takes (X.tr pn xe) W → PassesOwn (model X.prog X.w) X.A X.env xe → PSs (X.tr pn xe) body (tb W)
  ok : ∀ (W : WX) (w : Wd) (σ : L2.St) (ρ : Rho), EnvOk K w σ ρ → StOk K w → ∀ r, f ρ w.μ = some r → ∀ D : Ends, SPost K (fun cls d H => W cls d σ H) w D r → tb W D σ w.H
section
variable {X : Cx} {E : XK} {K : PySem.W.Frag}
theorem pds_def {k n : Nat} {x : Str} {e : Expr} {es : List Expr} {p pos : Pos} {fn : FN} {t : TA} {f : AF} (B : Bd X E k) (F : Fn X.prog X.w K X.mg X.base k x n fn) (ha : ∀ (pn : List (Addr × Obj)) (xe : Value → Shared → Prop) (E' : XK), PL K (X.tr pn xe) E' (e :: es) t f) (hn : ALen f n) (hg : Gl X x := by rfl) (hK : X.K = K := by rfl)
    (hdb : (x == ("__debug__" : Str)) = false := by decide) (he : starEach (e :: es) X.env = (false, eval e X.env) :: starEach es X.env := by rfl) (hpl : (backTo pos (starEach es X.env)).any (·.1) = false := by rfl) :
    PDS K X (.Call (.Name x p) (e :: es) [] pos) (fun W => tCallS (spM K n fn) (WE W) t) (eDef fn f) := by
  subst hK
  obtain ⟨fa, fd, ps, h1, h2, h3, h4, h5⟩ := F.ex
  refine ⟨fun W pn xe tk => pe_callS (X := X.tr pn xe) h1 B.room hg h2 h3 h4 (fun σ => passAt tk σ) (ha pn xe E).pe hdb he hpl, fun W w σ ρ ev => ?_⟩
  have q := eok_def (n := n) (fn := fn) (E := fun cls d H => W cls d σ H) hn (ha [] (fun _ _ => True) (fun cls d H => W cls d σ H)).ok w σ ρ ev
  intro s r er Q q1 q2
  have := q s r er Q q1 q2
  unfold tCall at this
  show t σ w.H fun vs H1 => spM X.K n fn vs H1 Q fun cls d H => W cls d σ H
  have e1 : (fun vs H1 => spM X.K n fn vs H1 Q fun cls d H => W cls d σ H) = (fun vs H1 => spM X.K n fn (vs ++ []) H1 Q fun cls d H => W cls d σ H) := by
    funext vs H1
    rw [List.append_nil]
  rw [e1]
  exact this
theorem tb_drop {e : Expr} {t : WX → TE} {f : EF} {pos : Pos} (h : PDS K X e t f) (hs : swapsWith e none pos.line X.env = pure false := by rfl) : PTb K X [.Expr e pos] (fun W => tDrop (t W)) (sDrop f) := by
  refine ⟨fun W pn xe tk _ => pss_one (ps_expr (X := X.tr pn xe) (h.pe W pn xe tk) hs), fun W w σ ρ ev s r e D P => ?_⟩
  show t W σ w.H fun _ H1 => D.nx σ H1
  refine At.use (h.ok W w σ ρ ev) s e _ (fun x w1 v _ e1 x1 s1 _ => ?_) P.2
  cases e1
  exact P.1 .nx ρ w1 rfl x1 s1 σ (ev.ext x1)
theorem tb_ret {e : Expr} {t : WX → TE} {f : EF} {pos : Pos} (h : PDS K X e t f) : PTb K X [.Return (some e) pos] (fun W => tRet (t W)) (sRet f) := by
  refine ⟨fun W pn xe tk _ => pss_one (ps_ret (X := X.tr pn xe) (h.pe W pn xe tk)), fun W w σ ρ ev s r e D P => ?_⟩
  show t W σ w.H D.rt
  refine At.use (h.ok W w σ ρ ev) s e _ (fun x w1 v _ e1 x1 s1 hx => ?_) P.2
  cases e1
  exact P.1 (.ret (rd w1.μ x)) ρ w1 rfl x1 s1 v (rd_ok s1 hx)
theorem tb_asg (i : Nat) {x : Str} {p : Pos} {e : Expr} {t : WX → TE} {f : EF} {pos : Pos} (h : PDS K X e t f) (hN : X.N.Nodup) (hi : X.N[i]? = some x := by rfl) (hx : Loc X.env.scope x := by first | exact .inl rfl | exact .inr rfl) (hf : X.fn x = true ∨ X.env.scope.names.lookup x = some .local := by first | exact .inl rfl | exact .inr rfl) (hs : swapsWithSole [.Name x p] e pos.line X.env = pure false := by rfl) (hw : swappedStores [.Name x p] e X.env = pure none := by rfl) (h1 : (assignEach [.Name x p] X.env).map (·.2) = [assign (.Name x p) X.env] := by rfl) :
    PTb K X [.Assign [.Name x p] e pos] (fun W => tAsg (t W) (gName i)) (sAsg f (gN i)) := by
  refine ⟨fun W pn xe tk _ => pss_one (ps_asg (X := X.tr pn xe) (h.pe W pn xe tk) (pg_name (i := i) hN hi hx hf) hs hw h1), fun W w σ ρ ev s r e D P => ?_⟩
  show t W σ w.H fun x H1 => gName i x σ H1 D.nx
  refine At.use (h.ok W w σ ρ ev) s e _ (fun x w1 v _ e1 x1 s1 hx => ?_) P.2
  cases e1
  exact P.1 .nx _ w1 rfl x1 s1 _ (env_set (ev.ext x1) i hx)
end
/-! ### try: .. except C as e: .. -/
abbrev EX0 : XK := fun _ _ _ => False
/-- a suite that holds the error in slot i -/
structure SBl (K : PySem.W.Frag) (X : Cx) (i : Nat) (sts : List Stmt) (ts : Addr → Value → Option Addr → TS) (h : Exn → SF) : Prop where
  pe : ∀ (a : Addr) (oe : Obj) (cls : Value) (d : Option Addr) (pn : List (Addr × Obj)), Zc cls d oe → (∃ vs, oe.data = .fields vs) → PSs (X.suite a ((a, oe) :: pn)) sts (ts a cls d)
  ok : ∀ (a : Addr) (cls : Value) (d : Option Addr) (x : Exn) (w : Wd) (σ : L2.St) (ρ : Rho), ExnOk K w x cls d → σ[i]? = some (some (.ref a)) → EnvOk K w σ ρ → StOk K w → ∀ r, h x ρ w.μ = some r → ∀ D : Ends, SPost K EX0 w D r → ts a cls d D σ w.H
def sTry (ct : Str → Option Bool) (i : Nat) (body : SF) (h : Exn → SF) : SF := fun ρ μ => match body ρ μ with
  | some (.ex x μ') => match ct x.cls with
    | some true => if i < ρ.length then (match h x (ρ.set i none) μ' with
      | some (.ok (fl, ρ') μ'') => some (.ok (fl, ρ'.set i none) μ'')
      | _ => none) else none
    | some false => some (.ex x μ')
    | none => none
  | r => r
/-- which classes of errors are caught by the class c -/
def CtK (K : PySem.W.Frag) (c : Str) (ct : Str → Option Bool) : Prop := ∀ (n : Str) (b : Bool), ct n = some b → ∀ C, clsAt K n C → PySem.W.exmOne K (.ref C) (.ref (clsC K c)) = some b
theorem env_none {K : PySem.W.Frag} {w : Wd} {σ : L2.St} {ρ : Rho} (h : EnvOk K w σ ρ) (i : Nat) (o : Option V) : EnvOk K w (σ.set i o) (ρ.set i none) := by
  refine ⟨by rw [List.length_set, List.length_set]; exact h.1, fun j x hx => ?_⟩
  by_cases e : i = j
  · subst e
    by_cases hl : i < ρ.length
    · rw [List.getElem?_set_self hl] at hx
      cases hx
    · rw [List.getElem?_eq_none (by rw [List.length_set]; omega)] at hx
      cases hx
  · rw [List.getElem?_set_ne e] at hx
    obtain ⟨v, h1, h2⟩ := h.2 j x hx
    exact ⟨v, by rw [List.getElem?_set_ne e]; exact h1, h2⟩
section
variable {X : Cx} {E : XK} {K : PySem.W.Frag}
theorem st_try (i : Nat) {c n : Str} {body suite : List Stmt} {b₀ : Stmt} {np pos pos' : Pos} {tb : WX → TS} {ts : Addr → Value → Option Addr → TS} {f : SF} {h : Exn → SF} {ct : Str → Option Bool} (hb : PTb K X body tb f) (hsu : SBl K X i (b₀ :: suite) ts h) (hct : CtK K c ct) (mgC : X.mg c = some (.ref (clsC K c)))
    (tk : Takes X (fun cls d _ H => E cls d H)) (hN : X.N.Nodup) (hs : X.stack = X.env :: X.outer := by rfl) (hf : X.env.frame = some X.env.locals := by rfl) (hi : X.N[i]? = some n := by rfl) (hln : X.env.kindOf n = some .local := by rfl) (hg : Gl X c := by rfl) (hdb : (c == ("__debug__" : Str)) = false := by decide) (hK : X.K = K := by rfl) :
    PSt K X E (.Try body [.ExceptHandler (some (.Name c np)) (some n) (b₀ :: suite) pos'] [] [] pos) (fun D σ H => tb (wAs X.K (.ref (clsC K c)) i ts (fun cls d _ H => E cls d H) D) D σ H) (sTry ct i f h) := by
  subst hK
  refine ⟨ps_try_as hs hf hN hi hln ⟨hg, hdb, .inl mgC⟩ tk hb.pe hsu.pe, fun w σ ρ ev s r e D P => ?_⟩
  unfold sTry at e
  have key : ∀ rb, f ρ w.μ = some rb → SPost X.K (fun cls d H => wAs X.K (.ref (clsC X.K c)) i ts (fun cls d _ H => E cls d H) D cls d σ H) w D rb → tb (wAs X.K (.ref (clsC X.K c)) i ts (fun cls d _ H => E cls d H) D) D σ w.H := fun rb hr hP => hb.ok _ w σ ρ ev s rb hr D hP
  cases hfr : f ρ w.μ with
  | none => rw [hfr] at e; cases e
  | some rb =>
    refine key rb hfr ?_
    cases rb with
    | ok a μ' =>
      rw [hfr] at e
      cases e
      exact ⟨P.1, fun _ _ _ _ z => by cases z⟩
    | ex x μ' =>
      rw [hfr] at e
      refine ⟨(fun _ _ _ z => by cases z), fun x2 w' cls d z ex' s' hx => ?_⟩
      cases z
      obtain ⟨⟨C, hC, hcls⟩, hd⟩ := id hx
      have e : (match ct x.cls with
        | some true => if i < ρ.length then (match h x (ρ.set i none) w'.μ with
          | some (.ok (fl, ρ') μ'') => some (Rs.ok (fl, ρ'.set i none) μ'')
          | _ => none) else none
        | some false => some (.ex x w'.μ)
        | none => none) = some r := e
      split at e
      · rename_i hc
        have hil : i < ρ.length := by
          by_cases hil : i < ρ.length
          · exact hil
          · rw [if_neg hil] at e; cases e
        rw [if_pos hil] at e
        split at e
        · rename_i fl ρ' μ'' hh
          cases e
          refine ⟨true, by rw [hcls]; exact hct _ _ hc C hC, fun _ a ha => ?_, fun z => by cases z⟩
          have hev := env_none (ev.ext ex') i (some (.ref a))
          refine hsu.ok a cls d x w' (σ.set i (some (.ref a))) (ρ.set i none) hx (List.getElem?_set_self (by rw [ev.1]; exact hil)) hev s' _ hh _ ⟨fun fl2 ρ2 w2 z e2 s2 => ?_, fun _ _ _ _ z => by cases z⟩
          cases z
          have q := P.1 fl (ρ'.set i none) w2 rfl (ex'.trans e2) s2
          cases fl with
          | nx => exact fun σ' ev' => q _ (env_none ev' i none)
          | bk => exact fun σ' ev' => q _ (env_none ev' i none)
          | ct => exact fun σ' ev' => q _ (env_none ev' i none)
          | ret v => exact q
        · cases e
      · rename_i hc
        cases e
        exact ⟨false, by rw [hcls]; exact hct _ _ hc C hC, fun z => (by cases z), fun _ => P.2 x w' cls d rfl ex' s' hx⟩
      · cases e
end
/-! ### suites: return .., if isinstance(e, C): .. -/
section
variable {X : Cx} {E : XK} {K : PySem.W.Frag}
theorem sb_plain {i : Nat} {sts : List Stmt} {t : TS} {f : SF} (h : ∀ (a : Addr) (oe : Obj) (pn : List (Addr × Obj)), PBl K (X.suite a ((a, oe) :: pn)) EX0 sts t f) : SBl K X i sts (fun _ _ _ => t) (fun _ => f) :=
  ⟨fun a oe cls d pn _ _ => (h a oe pn).pe, fun a cls d x w σ ρ _ _ ev s r e D P => (h a { cls := .none, data := .fields #[] } []).ok w σ ρ ev s r e D P⟩
/-- an error of the class D is asked whether it is one of .. -/
def rIsE' (K : PySem.W.Frag) (a : Addr) (cls : Value) (d : Option Addr) : List V → Hp → VK → Prop := fun xs H Q => ∃ D, cls = .ref D ∧ ExcC K D ∧ (∀ dd, d = some dd → ∃ fs, H dd = some (.xd fs)) ∧ rIsE K D a xs H Q
theorem call_isE' {a : Addr} {cls : Value} {d : Option Addr} {oe : Obj} {pn : List (Addr × Obj)} (hz : Zc cls d oe) (hf : ∃ vs, oe.data = .fields vs) : CallR (X.suite a ((a, oe) :: pn)) (.builtin "isinstance") (rIsE' X.K a cls d) := by
  intro pins s σ H xs us Q I r h
  obtain ⟨D, h1, C, h2, c, cv, b, rfl, hcv, e, q⟩ := h
  subst h1
  cases r with
  | cons rx rr =>
    cases rr with
    | cons rt rr =>
      cases rr
      cases rx
      rw [hcv _ rt]
      obtain ⟨hget, _⟩ := I.pin (a, oe) (List.mem_append.mpr (.inl List.mem_cons_self))
      obtain ⟨vs, hv⟩ := hf
      have hcl : (PySem.W.clsIn X.K D).isSome = true := by obtain ⟨cd, hc, _⟩ := PySem.W.any_some C.hd; rw [hc]; rfl
      have fin : ∀ od, PySem.W.InstAt s.heap a oe D od → wpAny (model X.prog X.w) (X.suite a ((a, oe) :: pn)).A (call (.builtin "isinstance") [.ref a, cv]) (EP (X.suite a ((a, oe) :: pn)) pins σ Q) (X.suite a ((a, oe) :: pn)).xe s := fun od J =>
        PySem.W.kia_one (PySem.W.kitx_exc hcl C.hg C.hk C.hs C.ha C.hn C.ht C.hm) I.kIn J e (fun z => nomatch z) fun tk => ⟨.bl b, H, I.kept (t' := tk) fun _ _ z => z, rfl, q⟩
      cases d with
      | none =>
        refine fin none ?_
        obtain ⟨oc, od, oda, osl⟩ := oe
        obtain ⟨h1, h2⟩ := hz
        dsimp only at h1 h2 hv
        subst h1 h2 hv
        exact ⟨hget, rfl, rfl, trivial⟩
      | some dd =>
        obtain ⟨fs, ea⟩ := h2 dd rfl
        have hx : ObjOk X.prog X.w H s.heap dd (.xd fs) := I.hok dd _ ea
        obtain ⟨mA, hns, hr⟩ := hx
        obtain ⟨od, ho, hl⟩ := lookIn_ns hns
        exact fin (some od) ⟨hget, hz.1, by unfold PySem.W.notCls; rw [hv] <;> rfl, by rw [hz.2]; exact ho⟩
/-- which classes of errors are one of the class c -/
def KtK (K : PySem.W.Frag) (c : Str) (kt : Str → Option Bool) : Prop := ∀ (n : Str) (b : Bool), kt n = some b → ∀ C, clsAt K n C → ExcC K C ∧ PySem.W.kitOne K (.ref C) (.ref (clsC K c)) = some b
def tIsE (K : PySem.W.Frag) (i : Nat) (c : Str) (a : Addr) (cls : Value) (d : Option Addr) : TE := tCB (rIsE' K a cls d) (tCons (tVar i) (tCons (tC (.ref (clsC K c))) tNil))
def sbIf (kt : Str → Option Bool) (f1 : Exn → SF) (h : Exn → SF) : Exn → SF := fun x ρ μ => match kt x.cls with
  | some true => match f1 x ρ μ with
    | some (.ok (.ret v, ρ') μ') => some (.ok (.ret v, ρ') μ')
    | _ => none
  | some false => h x ρ μ
  | none => none
theorem sb_if {i : Nat} {c n : Str} {p p1 p2 pos ipos : Pos} {b1 rest : List Stmt} {t1 : Addr → Value → Option Addr → TS} {f1 : Exn → SF} {ts : Addr → Value → Option Addr → TS} {h : Exn → SF} {kt : Str → Option Bool} (hk : KtK K c kt) (mgC : X.mg c = some (.ref (clsC K c))) (hm : X.mg "isinstance" = none)
    (h1 : SBl K X i b1 t1 f1) (hr : SBl K X i rest ts h) (hi : X.N[i]? = some n := by rfl) (hv : Vis X.env.scope n := by first | exact .inl rfl | exact .inr rfl) (hg : Gl X "isinstance" := by rfl) (hgc : Gl X c := by rfl) (hK : X.K = K := by rfl)
    (hd1 : (n == ("__debug__" : Str)) = false := by decide) (hcd : (n == ("__classdict__" : Str)) = false := by decide) (hd : (c == ("__debug__" : Str)) = false := by decide)
    (he : starEach (.Name n p1 :: [.Name c p2]) X.env = (false, eval (.Name n p1) X.env) :: starEach [.Name c p2] X.env := by rfl) (hpl : (backTo pos (starEach [.Name c p2] X.env)).any (·.1) = false := by rfl) 
    (htr : ∀ whole, isTrue (.Call (.Name "isinstance" p) [.Name n p1, .Name c p2] [] pos) X.env whole = (do let v ← whole; standAt (Expr.pos (.Call (.Name "isinstance" p) [.Name n p1, .Name c p2] [] pos)); holding [v] (truthy v)) := by intro _; rfl) :
    SBl K X i (.If (.Call (.Name "isinstance" p) [.Name n p1, .Name c p2] [] pos) b1 [] ipos :: rest)
      (fun a cls d => tSeq (tIfS (tTru' K (tIsE K i c a cls d)) (t1 a cls d) tNext) (ts a cls d)) (sbIf kt f1 h) := by
  subst hK
  refine ⟨fun a oe cls d pn hz hf => pss_cons (ps_if (pt_truth (X := X.suite a ((a, oe) :: pn)) (pe_callB (X := X.suite a ((a, oe) :: pn)) (call_isE' hz hf) hg hm (by decide +kernel) (pa_cons (pe_var hi hv hd1 hcd) (pa_cons (pe_glob (v := .ref (clsC X.K c)) hgc mgC rfl hd) pa_nil) he) (by decide) (by decide) he hpl) htr) (h1.pe a oe cls d pn hz hf) pss_nil) (hr.pe a oe cls d pn hz hf), fun a cls d x w σ ρ hx hσ ev s r e D P => ?_⟩
  obtain ⟨⟨C, hC, hcls⟩, hd⟩ := id hx
  unfold sbIf at e
  have hxd : ∀ dd, d = some dd → ∃ fs, w.H dd = some (.xd fs) := fun dd z => by
    cases hf : x.fs with
    | none =>
      rw [hf] at hd
      have hd : d = none := hd
      rw [hd] at z
      cases z
    | some fs =>
      rw [hf] at hd
      obtain ⟨a', gs, e1, e2, _⟩ := hd
      rw [e1] at z
      cases z
      exact ⟨gs, s.sub _ _ e2⟩
  have step : ∀ b, kt x.cls = some b → (if b = true then t1 a cls d { D with nx := fun σ' H' => ts a cls d D σ' H' } σ w.H else ts a cls d D σ w.H) → tSeq (tIfS (tTru' X.K (tIsE X.K i c a cls d)) (t1 a cls d) tNext) (ts a cls d) D σ w.H := fun b hb q => by
    obtain ⟨k1, k2⟩ := hk _ _ hb C hC
    refine ⟨.ref a, hσ, C, hcls, k1, hxd, .ref (clsC X.K c), .ref (clsC X.K c), b, rfl, fun u hu => hu, k2, b, rfl, ?_⟩
    cases b with
    | true => exact q
    | false => exact q
  split at e
  · rename_i hkt
    split at e
    · rename_i v ρ' μ' hf1
      cases e
      refine step true hkt ?_
      refine h1.ok a cls d x w σ ρ hx hσ ev s _ hf1 _ ⟨fun fl ρ2 w2 z e2 s2 => ?_, fun x2 w2 cls2 d2 z => by cases z⟩
      cases z
      exact P.1 (.ret v) ρ' w2 rfl e2 s2
    · cases e
  · rename_i hkt
    exact step false hkt (hr.ok a cls d x w σ ρ hx hσ ev s r e D P)
  · cases e
end
end Fm
set_option Elab.async false
set_option linter.all false
set_option maxRecDepth 100000
namespace Fm
open PySem L2 PySem.Spec PyProof.Rows
/-! ### errors with a field of their own -/
section
variable {K : PySem.W.Frag} {w : Wd}
theorem fz_new' (s : StOk K w) {p : Addr} (hA : p ∉ w.A) (h0 : w.F p = none) : StOk K (w.fz p w.μ) := by
  refine ⟨fun b o' e => ?_, s.len, s.nd, s.tr, fun n b c' e1 e2 => ?_⟩
  · show w.H b = some o'
    by_cases hb : b = p
    · subst hb
      have e : (if b = b then w.H b else w.F b) = some o' := e
      rw [if_pos rfl] at e
      exact e
    · have e : (if b = p then w.H p else w.F b) = some o' := e
      rw [if_neg hb] at e
      exact s.sub b o' e
  · refine (s.cell n b c' e1 e2).rep (fz_same h0 w.μ) (List.prefix_refl _) (fun l => ?_) fun _ => rfl
    show (if b = p then w.H p else w.F b) = none
    rw [if_neg (fun z => hA (by rw [← z]; exact List.mem_of_getElem? e1))]
    exact ((s.cell n b c' e1 e2).nn l).1
theorem fz_new_ext' {w0 : Wd} {p : Addr} (e : Ext w0 w) (hp : w0.H p = none) (h0 : w.F p = none) : Ext w0 (w.fz p w.μ) where
  sub := e.sub.trans (fz_same h0 w.μ)
  pre := e.pre
  dom := e.dom
  keep := e.keep
  capt := fun b h1 h2 h3 => by
    show (if b = p then w.H p else w.F b) = none
    rw [if_neg (fun z => h2 (by rw [z]; exact hp))]
    exact e.capt b h1 h2 h3
  lv := e.lv
  new := e.new
end
/-- __init__ of an error: self.f = what is given -/
def spX (C : Addr) (f : Str) : Sp := fun vs H Q _ => ∃ (a : Addr) (v : V), vs = [.ref a, v] ∧ H a = some (exo a C none) ∧ ∀ dx, H dx = none → dx ≠ a → Q .non (upd (upd H dx (exd dx [(f, v)])) a (exo a C (some dx)))
section
variable {P : Program} {w : World} {K : PySem.W.Frag} {mg : Str → Option Value} {base : Heap}
theorem okXI {qual p f : Str} {st : Stmt} {fI : Addr} {fd : FuncData} {k : Nat} {C : Addr} {p1 p2 p3 p4 : Pos} (F : L2.Fun K "__init__" qual st fI fd) (S : FnScope ["self", p] ["self", p] (defScope st)) (hst : defBody st = [.Assign [.Attribute (.Name "self" p1) f p2] (.Name p p3) p4]) (T : OexC K C) (hno : PySem.W.findIn K (.ref C) f = some none)
    (hp : (p == ("__debug__" : Str)) = false) (hpc : (p == ("__classdict__" : Str)) = false) (hv0 : Vis (defScope st) "self") (hv1 : Vis (defScope st) p)
    (hs : ∀ env : Env, swapsWith (.Name p p3) (some (.Attribute (.Name "self" p1) f p2)) p4.line env = pure false) : FnOk P w K mg base (L2.CX P w) (k + 1) fI fd ["self", p] (spX C f) := by
  refine F.okX S (fun vs H Q E h => by obtain ⟨a, v, rfl, _⟩ := h; rfl) fun cdv A outer s H vs Q E hr h => ?_
  obtain ⟨a, v, rfl, ha, q⟩ := h
  refine ⟨_, by rw [hst]; exact pss_one (ps_ost (pe_var (i := 0) rfl hv0) (pe_var (i := 1) rfl hv1 hp hpc) (hs _)), ?_⟩
  refine ⟨v, rfl, .ref a, rfl, a, C, rfl, T, hno, .inl ⟨ha, fun dx h1 h2 => q dx h1 h2⟩⟩
end
/-- an own class of errors with an __init__ of its own that stores one field -/
structure ExI (P : Program) (w : World) (K : PySem.W.Frag) (mg : Str → Option Value) (base : Heap) (k : Nat) (c f : Str) : Prop where
  hc : clsAt K c (clsC K c)
  mgC : mg c = some (.ref (clsC K c))
  T : OexC K (clsC K c)
  ex : ∃ (fI : Addr) (fd : FuncData) (p : Str), PySem.W.findIn K (.ref (clsC K c)) "__init__" = some (some (.ref fI)) ∧ PySem.W.typeIn K (.ref fI) = some (.type "function") ∧ FnOk P w K mg base (L2.CX P w) k fI fd ["self", p] (spX (clsC K c) f) ∧ Binds K fd ["self", p] []
section
variable {X : Cx} {E : XK} {K : PySem.W.Frag}
def sRaise1 (c f : Str) (fa : EF) : SF := fun ρ => mbind (fa ρ) fun y μ => match rd μ y with
  | .d d => some (.ex ⟨c, some [(f, d)]⟩ μ)
  | _ => none
theorem st_raise1 {k : Nat} {c f : Str} {e : Expr} {p pos pos' : Pos} {te : TE} {fe : EF} (D : ExI X.prog X.w K X.mg X.base k c f) (B : Bd X E (k + 1)) (tk : Takes X (fun cls d _ H => E cls d H)) (he : PD K X E e te fe) (hg : Gl X c := by rfl) (hK : X.K = K := by rfl) (hdb : (c == ("__debug__" : Str)) = false := by decide)
    (hst : starEach [e] X.env = (false, eval e X.env) :: starEach [] X.env := by rfl) (hpl : (backTo pos (starEach [] X.env)).any (·.1) = false := by rfl) :
    PSt K X E (.Raise (some (.Call (.Name c p) [e] [] pos)) none pos') (fun _ σ H => tMkO (clsC K c) (spX (clsC K c) f) [] (tCons te tNil) σ H fun cls d H' => E cls d H') (sRaise1 c f fe) := by
  subst hK
  obtain ⟨fI, fd, pn, h1, h2, h3, h4⟩ := D.ex
  refine ⟨ps_raise B.calm tk (pmk_oex D.T h1 h2 h3 B.room h4 .nil (fun pins σ H s e s' I c => ?_) hg D.mgC (pa_cons he.pe pa_nil hst) hdb hst hpl), fun w σ ρ ev s r er D' P => ?_⟩
  · obtain ⟨_, _, _, _, _, _, _, _, _, _, _, _, z⟩ := c
    exact z.elim
  · show te σ w.H fun v H1 => [v].length ≤ 1000 ∧ ∀ a, H1 a = none → spX (clsC X.K c) f (.ref a :: ([v] ++ [])) (upd H1 a (exo a (clsC X.K c) none)) _ _
    refine At.use (he.ok w σ ρ ev) s er _ (fun y w1 v _ e1 x1 s1 hy => ?_) P.2
    have e1 : (match rd w1.μ y with
      | .d d => some (Rs.ex ⟨c, some [(f, d)]⟩ w1.μ)
      | _ => none) = some r := e1
    split at e1
    · rename_i d hd
      cases e1
      have hrep : Rep X.K w1.F d v := by
        have := rd_ok s1 hy
        rw [hd] at this
        exact this
      refine ⟨by show 1 ≤ 1000; decide, fun a ha => ⟨a, v, rfl, upd_same, fun dx hdx hne => ⟨rfl, dx, [(f, v)], upd_same, by rw [upd_ne hne, upd_same], ?_, ?_⟩⟩⟩
      · rw [upd_ne hne] at hdx
        exact hdx
      · rw [upd_ne hne] at hdx
        have eH : upd (del (upd (upd (upd w1.H a (exo a (clsC X.K c) none)) dx (exd dx [(f, v)])) a (exo a (clsC X.K c) (some dx))) a) dx (.xd [(f, v)]) = upd w1.H dx (.xd [(f, v)]) := by
          funext b
          by_cases hb : b = dx
          · subst hb
            rw [upd_same, upd_same]
          · rw [upd_ne hb, upd_ne hb]
            by_cases hba : b = a
            · subst hba
              rw [del_same, ha]
            · rw [del_ne hba, upd_ne hba, upd_ne hb, upd_ne hba]
        rw [eH]
        obtain ⟨n1, n2, n3, n4⟩ := new_ok s1 (o := .xd [(f, v)]) hdx
        have s2 := fz_new' n1 n3 n4
        have x2 := fz_new_ext' n2 hdx n4
        refine P.2 ⟨c, some [(f, d)]⟩ (({ w1 with H := upd w1.H dx (.xd [(f, v)]) } : Wd).fz dx w1.μ) (.ref (clsC X.K c)) (some dx) rfl (x1.trans x2) s2 ⟨⟨_, D.hc, rfl⟩, dx, [(f, v)], rfl, ?_, ?_⟩
        · exact fz_at upd_same
        · exact .cons ⟨rfl, hrep.mono x2.sub⟩ .nil
    · cases e1
end
/-! ### expressions of a suite that look at its error -/
structure SPD (K : PySem.W.Frag) (X : Cx) (i : Nat) (e : Expr) (te : Addr → Value → Option Addr → TE) (f : Exn → EF) : Prop where
  pe : ∀ (a : Addr) (oe : Obj) (cls : Value) (d : Option Addr) (pn : List (Addr × Obj)), Zc cls d oe → (∃ vs, oe.data = .fields vs) → PE (X.suite a ((a, oe) :: pn)) e (te a cls d)
  ok : ∀ (a : Addr) (cls : Value) (d : Option Addr) (x : Exn) (w : Wd) (σ : L2.St) (ρ : Rho), ExnOk K w x cls d → σ[i]? = some (some (.ref a)) → EnvOk K w σ ρ → At K EX0 w (te a cls d σ w.H) (f x ρ) (RV K)
section
variable {X : Cx} {K : PySem.W.Frag}
theorem spd_plain {i : Nat} {e : Expr} {t : TE} {f : EF} (h : ∀ (a : Addr) (oe : Obj) (pn : List (Addr × Obj)), PD K (X.suite a ((a, oe) :: pn)) EX0 e t f) : SPD K X i e (fun _ _ _ => t) (fun _ => f) :=
  ⟨fun a oe cls d pn _ _ => (h a oe pn).pe, fun a cls d x w σ ρ _ _ ev => (h a { cls := .none, data := .fields #[] } []).ok w σ ρ ev⟩
theorem sb_ret {i : Nat} {e : Expr} {te : Addr → Value → Option Addr → TE} {f : Exn → EF} {pos : Pos} (h : SPD K X i e te f) : SBl K X i [.Return (some e) pos] (fun a cls d => tRet (te a cls d)) (fun x => sRet (f x)) := by
  refine ⟨fun a oe cls d pn hz hf => pss_one (ps_ret (h.pe a oe cls d pn hz hf)), fun a cls d x w σ ρ hx hσ ev s r e D P => ?_⟩
  show te a cls d σ w.H D.rt
  refine At.use (h.ok a cls d x w σ ρ hx hσ ev) s e _ (fun y w1 v _ e1 x1 s1 hy => ?_) P.2
  cases e1
  exact P.1 (.ret (rd w1.μ y)) ρ w1 rfl x1 s1 v (rd_ok s1 hy)
/-- e.f -/
def XfK (K : PySem.W.Frag) (f : Str) (xf : Str → Bool) : Prop := ∀ (n : Str), xf n = true → ∀ C, clsAt K n C → XfC K C ∧ PySem.W.findIn K (.ref C) f = some none
def tXf' (K : PySem.W.Frag) (i : Nat) (f : Str) (a : Addr) (cls : Value) (d : Option Addr) : TE := fun σ H Q => ∃ C, XfC K C ∧ PySem.W.findIn K (.ref C) f = some none ∧ tXf a cls d C f (tVar i) σ H Q
def eXf (f : Str) (xf : Str → Bool) : Exn → EF := fun x _ => mof (if xf x.cls = true then (x.fs.bind fun fs => fs.lookup f).map T.d else none)
theorem spd_fld {i : Nat} {f n : Str} {p pos : Pos} {xf : Str → Bool} (hx : XfK K f xf) (hi : X.N[i]? = some n := by rfl) (hv : Vis X.env.scope n := by first | exact .inl rfl | exact .inr rfl) (hK : X.K = K := by rfl)
    (hd1 : (n == ("__debug__" : Str)) = false := by decide) (hcd : (n == ("__classdict__" : Str)) = false := by decide) (hb : attributeBase (.Name n p) f X.env (eval (.Name n p) X.env) = eval (.Name n p) X.env := by rfl) : SPD K X i (.Attribute (.Name n p) f pos) (tXf' K i f) (eXf f xf) := by
  subst hK
  refine ⟨fun a oe cls d pn hz hf => ⟨fun pins s σ H Q I h => ?_⟩, fun a cls d x w σ ρ hxx hσ ev => ?_⟩
  · obtain ⟨C, h1, h2, h3⟩ := h
    exact (pe_xf h1 h2 hz hf (pe_var hi hv hd1 hcd) hb).run pins s σ H Q I h3
  · refine At.pure fun s b hb => ?_
    split at hb
    · rename_i hxf
      obtain ⟨y, hy, rfl⟩ := Option.map_eq_some_iff.mp hb
      obtain ⟨fs, hfs, hl⟩ := Option.bind_eq_some_iff.mp hy
      obtain ⟨⟨C, hC, hcls⟩, hd⟩ := hxx
      rw [hfs] at hd
      obtain ⟨dd, gs, h1, h2, h3⟩ := hd
      obtain ⟨k1, k2⟩ := hx _ hxf C hC
      have key : ∀ {fs : List (Str × D)} {gs : List (Str × V)}, Paired (fun p q => p.1 = q.1 ∧ Rep X.K w.F p.2 q.2) fs gs → fs.lookup f = some y → ∃ v, gs.lookup f = some v ∧ Rep X.K w.F y v := by
        intro fs gs hp
        induction hp with
        | nil => intro z; cases z
        | @cons p q l1 l2 hr t ih =>
          intro z
          obtain ⟨pn, pv⟩ := p
          obtain ⟨qn, qv⟩ := q
          obtain ⟨e1, e2⟩ := hr
          have e1 : pn = qn := e1
          subst e1
          rw [List.lookup_cons] at z ⊢
          split at z
          · rename_i hq
            cases z
            exact ⟨qv, rfl, e2⟩
          · exact ih z
      obtain ⟨v, hv1, hv2⟩ := key h3 hl
      exact ⟨v, hv2, fun Q q => ⟨C, k1, k2, .ref a, hσ, rfl, hcls, dd, gs, v, h1, s.sub _ _ h2, hv1, q⟩⟩
    · cases hb
end
structure SPL (K : PySem.W.Frag) (X : Cx) (i : Nat) (es : List Expr) (t : Addr → Value → Option Addr → TA) (f : Exn → AF) : Prop where
  pe : ∀ (a : Addr) (oe : Obj) (cls : Value) (d : Option Addr) (pn : List (Addr × Obj)), Zc cls d oe → (∃ vs, oe.data = .fields vs) → PA (X.suite a ((a, oe) :: pn)) es (t a cls d)
  ok : ∀ (a : Addr) (cls : Value) (d : Option Addr) (x : Exn) (w : Wd) (σ : L2.St) (ρ : Rho), ExnOk K w x cls d → σ[i]? = some (some (.ref a)) → EnvOk K w σ ρ → At K EX0 w (t a cls d σ w.H) (f x ρ) (RL K)
theorem ExnOk.ext {K : PySem.W.Frag} {w w' : Wd} {x : Exn} {cls : Value} {d : Option Addr} (h : ExnOk K w x cls d) (e : Ext w w') : ExnOk K w' x cls d := by
  obtain ⟨h1, h2⟩ := h
  refine ⟨h1, ?_⟩
  cases hf : x.fs with
  | none => rw [hf] at h2; exact h2
  | some fs =>
    rw [hf] at h2
    obtain ⟨a, gs, e1, e2, e3⟩ := h2
    exact ⟨a, gs, e1, e.sub _ _ e2, pd_imp (fun _ _ q => ⟨q.1, q.2.mono e.sub⟩) e3⟩
section
variable {X : Cx} {K : PySem.W.Frag} {i : Nat}
theorem spl_nil : SPL K X i [] (fun _ _ _ => tNil) (fun _ => aNil) := ⟨fun _ _ _ _ _ _ _ => pa_nil, fun a cls d x w σ ρ _ _ _ => At.ret (R := RL K) .nil⟩
theorem spl_cons {e : Expr} {es : List Expr} {ta : Addr → Value → Option Addr → TE} {tb : Addr → Value → Option Addr → TA} {f : Exn → EF} {g : Exn → AF} (h : SPD K X i e ta f) (hr : SPL K X i es tb g) (hs : starEach (e :: es) X.env = (false, eval e X.env) :: starEach es X.env := by rfl) : SPL K X i (e :: es) (fun a cls d => tCons (ta a cls d) (tb a cls d)) (fun x => aCons (f x) (g x)) := by
  refine ⟨fun a oe cls d pn hz hf => pa_cons (h.pe a oe cls d pn hz hf) (hr.pe a oe cls d pn hz hf) hs, fun a cls d x w σ ρ hx hσ ev => ?_⟩
  show At K EX0 w (fun Q => ta a cls d σ w.H fun x H1 => tb a cls d σ H1 fun xs H2 => Q (x :: xs) H2) _ _
  exact At.bind rl_m (h.ok a cls d x w σ ρ hx hσ ev) fun y v w1 e1 s1 hy => At.bind rl_m (hr.ok a cls d x w1 σ ρ (hx.ext e1) hσ (ev.ext e1)) fun xs vs w2 e2 s2 hxs => At.ret (a := y :: xs) (b := v :: vs) (R := RL K) (.cons (e2.t hy) hxs)
theorem spd_tup {es : List Expr} {t : Addr → Value → Option Addr → TA} {f : Exn → AF} {k pos} (h : SPL K X i es t f) : SPD K X i (.Tuple es k pos) (fun a cls d => tTup (t a cls d)) (fun x => eTup (f x)) := by
  refine ⟨fun a oe cls d pn hz hf => pe_tup (h.pe a oe cls d pn hz hf), fun a cls d xx w σ ρ hxx hσ ev => ?_⟩
  show At K EX0 w (fun Q => t a cls d σ w.H fun xs H1 => xs.length ≤ sizeLine ∧ ∀ p, H1 p = none → Q (V.ref p) (upd H1 p (.tup xs))) _ _
  refine At.bind rv_m (h.ok a cls d xx w σ ρ hxx hσ ev) fun xs vs w1 e1 s1 hx => ?_
  intro s r e Q k1 k2
  have e : (match dTs w1.μ xs with
    | some ds => if xs.length ≤ SL then some (Rs.ok (T.d (.tup ds)) w1.μ) else none
    | none => none) = some r := e
  split at e
  · rename_i ds hd
    split at e
    · rename_i hl
      cases e
      refine ⟨by rw [← pd_len hx]; exact le_SL hl, fun p hp => ?_⟩
      obtain ⟨n1, n2, n3, n4⟩ := new_ok s (o := .tup vs) hp
      have hF : ({ w1 with H := upd w1.H p (.tup vs) } : Wd).F p = none := n4
      have hat : ({ w1 with H := upd w1.H p (.tup vs) } : Wd).H p = some (.tup vs) := upd_same
      have sm := fz_same hF w1.μ
      refine k1 (.d (.tup ds)) (({ w1 with H := upd w1.H p (.tup vs) } : Wd).fz p w1.μ) (.ref p) rfl ⟨n2.sub.trans sm, n2.pre, n2.dom, n2.keep, fun b h1 h2 h3 => ?_, n2.lv, n2.new⟩ ⟨fun b o' q => ?_, n1.len, n1.nd, n1.tr, fun n b c q1 q2 => ?_⟩ ?_
      · show (if b = p then upd w1.H p (.tup vs) p else w1.F b) = none
        rw [if_neg (fun z => h2 (by rw [z]; exact hp))]
        exact h1
      · show upd w1.H p (.tup vs) b = some o'
        by_cases hb : b = p
        · have q : (if b = p then upd w1.H p (.tup vs) p else w1.F b) = some o' := q
          rw [if_pos hb] at q
          rw [hb]
          exact q
        · have q : (if b = p then upd w1.H p (.tup vs) p else w1.F b) = some o' := q
          rw [if_neg hb] at q
          exact n1.sub b o' q
      · refine (n1.cell n b c q1 q2).rep sm (List.prefix_refl _) (fun l => ?_) fun _ => rfl
        show (if b = p then upd w1.H p (.tup vs) p else w1.F b) = none
        rw [if_neg (fun z => n3 (by rw [← z]; exact List.mem_of_getElem? q1))]
        exact ((n1.cell n b c q1 q2).nn l).1
      · exact ⟨p, vs, rfl, fz_at hat, (dTs_ok s hx hd).mono sm⟩
    · cases e
  · cases e

end
/-! ### tables of classes of errors -/
def lkB : List (Str × Bool) → Str → Option Bool
  | [], _ => none
  | (a, b) :: r, n => if a = n then some b else lkB r n
theorem lkB_mem : ∀ {l : List (Str × Bool)} {n : Str} {b : Bool}, lkB l n = some b → (n, b) ∈ l
  | [], _, _, h => by cases h
  | (a, b) :: r, n, c, h => by
    unfold lkB at h
    split at h
    · rename_i e
      cases h
      subst e
      exact List.mem_cons_self
    · exact List.mem_cons_of_mem _ (lkB_mem h)
def inE (l : List Str) (n : Str) : Bool := decide (n ∈ l)
structure CtF (K : PySem.W.Frag) (mg : Str → Option Value) (c : Str) (l : List (Str × Bool)) : Prop where
  mgC : mg c = some (.ref (clsC K c))
  ct : CtK K c (lkB l)
structure KtF (K : PySem.W.Frag) (mg : Str → Option Value) (c : Str) (l : List (Str × Bool)) : Prop where
  mgC : mg c = some (.ref (clsC K c))
  kt : KtK K c (lkB l)
theorem ctf_mk {K : PySem.W.Frag} {h : Heap} {mg : Str → Option Value} {c : Str} {l : List (Str × Bool)} {C : Addr} (X : K.In h) (G : h.Ns mainGlobals mg) (hC : PySem.W.nsIn K mainGlobals c = some (some (.ref C))) (h1 : PySem.W.subIn K (.ref C) (.type "BaseException") = some true) (hd : PySem.W.hasDictIn K C = true) (ht : PySem.W.typeIn K (.ref C) = some (.type "type"))
    (hl : ∀ n b, (n, b) ∈ l → ∃ D, PySem.W.nsIn K mainGlobals n = some (some (.ref D)) ∧ PySem.W.subIn K (.ref D) (.ref C) = some b) : CtF K mg c l := by
  have e := clsC_of (K := K) (c := c) hC
  refine ⟨by rw [e]; exact PySem.W.mg_of X G hC, fun n b hb D hD => ?_⟩
  obtain ⟨D', k1, k2⟩ := hl n b (lkB_mem hb)
  obtain rfl : D' = D := clsAt.uniq (K := K) (c := n) k1 hD
  rw [e]
  exact PySem.W.exm_ref h1 hd ht k2
theorem ktf_mk {K : PySem.W.Frag} {h : Heap} {mg : Str → Option Value} {c : Str} {l : List (Str × Bool)} {C : Addr} (X : K.In h) (G : h.Ns mainGlobals mg) (hC : PySem.W.nsIn K mainGlobals c = some (some (.ref C)))
    (hl : ∀ n b, (n, b) ∈ l → ∃ D, PySem.W.nsIn K mainGlobals n = some (some (.ref D)) ∧ ExcC K D ∧ PySem.W.kitOne K (.ref D) (.ref C) = some b) : KtF K mg c l := by
  have e := clsC_of (K := K) (c := c) hC
  refine ⟨by rw [e]; exact PySem.W.mg_of X G hC, fun n b hb D hD => ?_⟩
  obtain ⟨D', k1, k2, k3⟩ := hl n b (lkB_mem hb)
  obtain rfl : D' = D := clsAt.uniq (K := K) (c := n) k1 hD
  rw [e]
  exact ⟨k2, k3⟩
theorem xfk_mk {K : PySem.W.Frag} {f : Str} {l : List Str} (hl : ∀ n, n ∈ l → ∃ D, PySem.W.nsIn K mainGlobals n = some (some (.ref D)) ∧ XfC K D ∧ PySem.W.findIn K (.ref D) f = some none) : XfK K f (inE l) := fun n hn D hD => by
  obtain ⟨D', k1, k2, k3⟩ := hl n (of_decide_eq_true hn)
  obtain rfl : D' = D := clsAt.uniq (K := K) (c := n) k1 hD
  exact ⟨k2, k3⟩
theorem exk_mk {K : PySem.W.Frag} {h : Heap} {mg : Str → Option Value} {c : Str} {C : Addr} (X : K.In h) (G : h.Ns mainGlobals mg) (hC : PySem.W.nsIn K mainGlobals c = some (some (.ref C))) (ex : PySem.W.excIn K C veB "ValueError.__new__" = true) (kp : PySem.W.keepIn K (.ref C) = true) (sub : PySem.W.subIn K (.ref C) (.type "BaseException") = some true) (ty : PySem.W.typeIn K (.ref C) = some (.type "type")) : ExK K mg c := by
  have e := clsC_of (K := K) (c := c) hC
  exact ⟨by rw [e]; exact hC, by rw [e]; exact PySem.W.mg_of X G hC, by rw [e]; exact ex, by rw [e]; exact kp, by rw [e]; exact sub, by rw [e]; exact ty⟩
/-- an error with a field, as the top has made it -/
structure DxX (K : PySem.W.Frag) (mg : Str → Option Value) (c f : Str) : Prop where
  hc : clsAt K c (clsC K c)
  mgC : mg c = some (.ref (clsC K c))
  T : OexC K (clsC K c)
  no : PySem.W.findIn K (.ref (clsC K c)) f = some none
  ex : ∃ (fI : Addr) (fd : FuncData) (p qual : Str) (st : Stmt) (p1 p2 p3 p4 : Pos), PySem.W.findIn K (.ref (clsC K c)) "__init__" = some (some (.ref fI)) ∧ PySem.W.typeIn K (.ref fI) = some (.type "function") ∧ L2.Fun K "__init__" qual st fI fd ∧ Binds K fd ["self", p] [] ∧
    FnScope ["self", p] ["self", p] (defScope st) ∧ defBody st = [.Assign [.Attribute (.Name "self" p1) f p2] (.Name p p3) p4] ∧ (p == ("__debug__" : Str)) = false ∧ (p == ("__classdict__" : Str)) = false ∧ Vis (defScope st) "self" ∧ Vis (defScope st) p ∧
    ∀ env : Env, swapsWith (.Name p p3) (some (.Attribute (.Name "self" p1) f p2)) p4.line env = pure false
theorem exI_of {P : Program} {w : World} {K : PySem.W.Frag} {mg : Str → Option Value} {base : Heap} {k : Nat} {c f : Str} (D : DxX K mg c f) : ExI P w K mg base (k + 1) c f := by
  obtain ⟨fI, fd, p, qual, st, p1, p2, p3, p4, h1, h2, h3, h4, h5, h6, h7, h8, h9, h10, h11⟩ := D.ex
  exact ⟨D.hc, D.mgC, D.T, fI, fd, p, h1, h2, okXI h3 h5 h6 D.T D.no h7 h8 h9 h10 h11, h4⟩
end Fm
set_option Elab.async false
set_option linter.all false
set_option maxRecDepth 100000
namespace Fm
open PySem L2 PySem.Spec PyProof.Rows
/-! ### a[i], b[j] = x, y -/
def putS (fo fk : EF) (v : T) (ρ : Rho) : M Unit := mbind (fo ρ) fun o => mbind (fk ρ) fun k μ => match setL μ o (rd μ k) v with
  | some μ' => some (.ok () μ')
  | none => none
def sSwap (fv fo fk fo2 fk2 : EF) : SF := fun ρ => mbind (fv ρ) fun x μ => match tupOf (rd μ x) with
  | some [a, b] => (mbind (putS fo fk (.d a) ρ) fun _ => mbind (putS fo2 fk2 (.d b) ρ) fun _ => mret (.nx, ρ)) μ
  | _ => none
section
variable {X : Cx} {E : XK} {K : PySem.W.Frag}
theorem use_put {to tk : TE} {fo fk : EF} (ho : EOk K E to fo) (hk : EOk K E tk fk) {w : Wd} {σ : L2.St} {ρ : Rho} (ev : EnvOk K w σ ρ) (s : StOk K w) {x : T} {v : V} (hx : w.t K x v) {γ : Type} {k : Unit → M γ} {r : Rs γ} (e : mbind (putS fo fk x ρ) k w.μ = some r) {N : Hp → Prop}
    (h1 : ∀ w', k () w'.μ = some r → Ext w w' → StOk K w' → N w'.H) (h2 : ∀ x w' cls d, r = .ex x w'.μ → Ext w w' → StOk K w' → ExnOk K w' x cls d → E cls d w'.H) : to σ w.H fun o H2 => tk σ H2 fun i H3 => rSetL o i v H3 N := by
  have e : mbind (fo ρ) (fun xo => mbind (fk ρ) fun xk μ => match setL μ xo (rd μ xk) x with
    | some μ' => k () μ'
    | none => none) w.μ = some r := by
    rw [← e]
    unfold putS mbind
    dsimp only
    cases fo ρ w.μ with
    | none => rfl
    | some q =>
      cases q with
      | ex => rfl
      | ok a m =>
        dsimp only
        cases fk ρ m with
        | none => rfl
        | some q =>
          cases q with
          | ex => rfl
          | ok b m2 =>
            dsimp only
            cases setL m2 a (rd m2 b) x <;> rfl
  refine At.use (ho w σ ρ ev) s e _ (fun xo w2 o _ e2 x2 s2 hxo => ?_) h2
  refine At.use (hk w2 σ ρ (ev.ext x2)) s2 e2 _ (fun xk w3 i _ e3 x3 s3 hxk => ?_) fun a w' cls d z e' => h2 a w' cls d z (x2.trans e')
  have e3 : (match setL w3.μ xo (rd w3.μ xk) x with
    | some μ' => k () μ'
    | none => none) = some r := e3
  have hxk := rd_ok s3 hxk
  generalize rd w3.μ xk = yk at e3 hxk
  split at e3
  · rename_i μ' hμ
    unfold setL at hμ
    split at hμ
    · rename_i n ys j hl
      obtain ⟨m, hm, hm2⟩ := Option.map_eq_some_iff.mp hμ
      obtain ⟨a, vs, k1, k2, k3, k4, k5, k6⟩ := lstC_ok s3 (x3.t hxo) hl
      refine ⟨a, vs, j, m, k1, hxk, k5, by rw [← pd_len k6]; exact hm, ?_⟩
      obtain ⟨q1, q2⟩ := wr_ok s3 k2 k3 rfl (c' := .lst (ys.set m x)) rfl (CellOk.lst_upd k4 (pd_set ((x2.trans x3).t hx) m k6))
      exact h1 _ (by rw [← hm2] at e3; exact e3) ((x2.trans x3).trans q2) q1
    · cases hμ
  · cases e3
theorem st_swap {e o1 i1 o2 i2 : Expr} {tv to tk to2 tk2 : TE} {fv fo fk fo2 fk2 : EF} {k : Nat} {p1 p2 pos pos' : Pos} (hv : PD K X E e tv fv) (ho : PD K X E o1 to fo) (hk : PD K X E i1 tk fk) (ho2 : PD K X E o2 to2 fo2) (hk2 : PD K X E i2 tk2 fk2) (hc : X.calm = true := by rfl) (hK : X.K = K := by rfl)
    (hs : swapsWithSole [.Tuple [.Subscript o1 i1 p1, .Subscript o2 i2 p2] k pos'] e pos.line X.env = pure false := by rfl) (hw : swappedStores [.Tuple [.Subscript o1 i1 p1, .Subscript o2 i2 p2] k pos'] e X.env = pure none := by rfl) (h1 : (assignEach [.Tuple [.Subscript o1 i1 p1, .Subscript o2 i2 p2] k pos'] X.env).map (·.2) = [assign (.Tuple [.Subscript o1 i1 p1, .Subscript o2 i2 p2] k pos') X.env] := by rfl)
    (ha : ∀ v, assign (.Subscript o1 i1 p1) X.env v = (do
      let ov ← holding [v] (eval o1 X.env)
      let iv ← holding [v, ov] (eval i1 X.env)
      standAt p1
      holding [v, ov, iv] (setItem ov iv v)
      release [v, ov, iv] []) := by intro _; rfl)
    (ha2 : ∀ v, assign (.Subscript o2 i2 p2) X.env v = (do
      let ov ← holding [v] (eval o2 X.env)
      let iv ← holding [v, ov] (eval i2 X.env)
      standAt p2
      holding [v, ov, iv] (setItem ov iv v)
      release [v, ov, iv] []) := by intro _; rfl)
    (hs1 : (assignEach [.Subscript o1 i1 p1, .Subscript o2 i2 p2] X.env).map (·.2) = assign (.Subscript o1 i1 p1) X.env :: (assignEach [.Subscript o2 i2 p2] X.env).map (·.2) := by rfl) (hs2 : (assignEach [.Subscript o2 i2 p2] X.env).map (·.2) = assign (.Subscript o2 i2 p2) X.env :: (assignEach [] X.env).map (·.2) := by rfl)
    (hn : (assignEach [.Subscript o1 i1 p1, .Subscript o2 i2 p2] X.env).length = 2 := by rfl) (hst : (assignEach [.Subscript o1 i1 p1, .Subscript o2 i2 p2] X.env).findIdx? (·.1) = none := by rfl) :
    PSt K X E (.Assign [.Tuple [.Subscript o1 i1 p1, .Subscript o2 i2 p2] k pos'] e pos) (tAsg tv (gTup K 2 (gCons (gSub to tk rSetL) (gCons (gSub to2 tk2 rSetL) gNil)))) (sSwap fv fo fk fo2 fk2) := by
  subst hK
  refine ⟨ps_asg hv.pe (pg_tup hc (pgs_cons (pg_sub ho.pe hk.pe set_list ha) (pgs_cons (pg_sub ho2.pe hk2.pe set_list ha2) pgs_nil hs2) hs1) hn hst) hs hw h1, fun w σ ρ ev s r er D P => ?_⟩
  show tv σ w.H fun v H1 => ∃ a xs, v = .ref a ∧ SqT X.K H1 a xs ∧ xs.length = 2 ∧ gCons (gSub to tk rSetL) (gCons (gSub to2 tk2 rSetL) gNil) xs σ H1 D.nx
  refine At.use (hv.ok w σ ρ ev) s er _ (fun x w1 v _ e1 x1 s1 hx => ?_) P.2
  have e1 : (match tupOf (rd w1.μ x) with
    | some [a, b] => (mbind (putS fo fk (.d a) ρ) fun _ => mbind (putS fo2 fk2 (.d b) ρ) fun _ => mret (.nx, ρ)) w1.μ
    | _ => none) = some r := e1
  split at e1
  · rename_i a b hab
    obtain ⟨p, vs, h3, h4, h5⟩ := tup_ok s1 (rd_ok s1 hx) hab
    cases h5 with
    | cons ha' hr =>
      cases hr with
      | cons hb' hr =>
        cases hr
        refine ⟨p, _, h3, .of h4, rfl, _, _, rfl, ?_⟩
        refine use_put ho.ok hk.ok (ev.ext x1) s1 ha' e1 (fun w2 e2 x2 s2 => ?_) fun a w' cls d z e' => P.2 a w' cls d z (x1.trans e')
        refine ⟨_, _, rfl, ?_⟩
        refine use_put ho2.ok hk2.ok ((ev.ext x1).ext x2) s2 (x2.t hb') e2 (fun w3 e3 x3 s3 => ?_) fun a w' cls d z e' => P.2 a w' cls d z ((x1.trans x2).trans e')
        cases e3
        exact ⟨rfl, P.1 .nx ρ w3 rfl ((x1.trans x2).trans x3) s3 σ (((ev.ext x1).ext x2).ext x3)⟩
  · cases e1
end
end Fm
set_option Elab.async false
set_option linter.all false
set_option maxRecDepth 100000
namespace Fm
open PySem L2 PySem.Spec PyProof.Rows
section
variable {X : Cx} {E : XK} {K : PySem.W.Frag} {k : Nat}
/-! ### tuples: walks, slices, tuple(xs) -/
def tupD : T → Option (List T)
  | .d (.tup ds) => some (ds.map T.d)
  | _ => none
theorem tupD_ok {w : Wd} {x : T} {v : V} {xs : List T} (hx : w.t K x v) (e : tupD x = some xs) : ∃ a vs, v = .ref a ∧ w.F a = some (.tup vs) ∧ Paired (w.t K) xs vs := by
  unfold tupD at e
  split at e
  · rename_i ds
    cases e
    obtain ⟨a, vs, h1, h2, h3⟩ := hx
    exact ⟨a, vs, h1, h2, d_paired h3⟩
  · cases e
def iTupD (f : EF) : AF := fun ρ => mbind (f ρ) fun x μ => mof (tupD (rd μ x)) μ
theorem it_tup {tg e : Expr} {t : TE} {f : EF} (h : PD K X E e t f) (hK : X.K = K := by rfl) : PIt K X E tg e (iTup K t) (iTupD f) := by
  subst hK
  refine ⟨pi_tup h.pe, fun w σ ρ ev s r er R q1 q2 => ?_⟩
  show t σ w.H fun x H1 => ∃ a, x = .ref a ∧ (∃ xs, SqT X.K H1 a xs) ∧ R (Itt X.K a) H1
  refine At.use (h.ok w σ ρ ev) s er _ (fun x w1 v _ er2 e1 s2 hx => ?_) q2
  have er2 : mof (tupD (rd w1.μ x)) w1.μ = some r := er2
  unfold mof at er2
  cases hl : tupD (rd w1.μ x) with
  | none => rw [hl] at er2; cases er2
  | some xs =>
    rw [hl] at er2
    cases er2
    obtain ⟨a, vs, h1, h2, h3⟩ := tupD_ok (rd_ok s2 hx) hl
    refine ⟨a, h1, ⟨vs, .of (s2.sub a _ h2)⟩, ?_⟩
    have wk := walk_tup (K := X.K) (a := a) (xs := vs)
    rw [← pd_len h3] at wk
    refine q1 xs w1 rfl e1 s2 _ _ _ wk (yields_at h3 (fun w2 e2 s3 => .of (s3.sub a _ (e2.sub a _ h2))) fun i H x H' y => ?_)
    exact y
theorem itF_tup {tg e : Expr} {t : TE} {f : EF} (h : PD K X E e t f) (hK : X.K = K := by rfl) : PItF K X E tg e (iTup K t) (iTupD f) := by
  subst hK
  refine ⟨pi_tup h.pe, fun w σ ρ ev s r er R q1 q2 => ?_⟩
  show t σ w.H fun x H1 => ∃ a, x = .ref a ∧ (∃ xs, SqT X.K H1 a xs) ∧ R (Itt X.K a) H1
  refine At.use (h.ok w σ ρ ev) s er _ (fun x w1 v _ er2 e1 s2 hx => ?_) q2
  have er2 : mof (tupD (rd w1.μ x)) w1.μ = some r := er2
  unfold mof at er2
  cases hl : tupD (rd w1.μ x) with
  | none => rw [hl] at er2; cases er2
  | some xs =>
    rw [hl] at er2
    cases er2
    obtain ⟨a, vs, h1, h2, h3⟩ := tupD_ok (rd_ok s2 hx) hl
    refine ⟨a, h1, ⟨vs, .of (s2.sub a _ h2)⟩, ?_⟩
    have wk := walk_tup (K := X.K) (a := a) (xs := vs)
    rw [← pd_len h3] at wk
    exact q1 xs w1 vs rfl e1 s2 h3 _ _ _ wk (fun w2 e2 s3 => .of (s3.sub a _ (e2 a _ h2))) fun i H x H' y => y
/-- a new tuple of data -/
theorem tup_new' {w1 : Wd} (s : StOk K w1) {vs : List V} {ds : List D} (hr : Reps K w1.F ds vs) {p : Addr} (hp : w1.H p = none) : ∃ w2 : Wd, w2.H = upd w1.H p (.tup vs) ∧ w2.μ = w1.μ ∧ Ext w1 w2 ∧ StOk K w2 ∧ Rep K w2.F (.tup ds) (.ref p) := by
  obtain ⟨n1, n2, n3, n4⟩ := new_ok s (o := .tup vs) hp
  have hF : ({ w1 with H := upd w1.H p (.tup vs) } : Wd).F p = none := n4
  have hat : ({ w1 with H := upd w1.H p (.tup vs) } : Wd).H p = some (.tup vs) := upd_same
  have sm := fz_same hF w1.μ
  refine ⟨({ w1 with H := upd w1.H p (.tup vs) } : Wd).fz p w1.μ, rfl, rfl, ⟨n2.sub.trans sm, n2.pre, n2.dom, n2.keep, fun b h1 h2 h3 => ?_, n2.lv, n2.new⟩, ⟨fun b o' q => ?_, n1.len, n1.nd, n1.tr, fun n b c q1 q2 => ?_⟩, ?_⟩
  · show (if b = p then upd w1.H p (.tup vs) p else w1.F b) = none
    rw [if_neg (fun z => h2 (by rw [z]; exact hp))]
    exact h1
  · show upd w1.H p (.tup vs) b = some o'
    by_cases hb : b = p
    · have q : (if b = p then upd w1.H p (.tup vs) p else w1.F b) = some o' := q
      rw [if_pos hb] at q
      rw [hb]
      exact q
    · have q : (if b = p then upd w1.H p (.tup vs) p else w1.F b) = some o' := q
      rw [if_neg hb] at q
      exact n1.sub b o' q
  · refine (n1.cell n b c q1 q2).rep sm (List.prefix_refl _) (fun l => ?_) fun _ => rfl
    show (if b = p then upd w1.H p (.tup vs) p else w1.F b) = none
    rw [if_neg (fun z => n3 (by rw [← z]; exact List.mem_of_getElem? q1))]
    exact ((n1.cell n b c q1 q2).nn l).1
  · exact ⟨p, vs, rfl, fz_at hat, hr.mono sm⟩
/-- t[lo:hi], not the whole of it -/
def slT (x : T) (l u : Option Int) : M T := fun μ => match rd μ x with
  | .d (.tup xs) => if ¬ (HT.sIx xs.length 0 l = 0 ∧ HT.sIx xs.length xs.length u = xs.length) then some (.ok (.d (.tup (cutL xs l u))) μ) else none
  | _ => none
def eSlT (f : EF) (l u : OF) : EF := fun ρ => mbind (f ρ) fun x => mbind (l ρ) fun lo => mbind (u ρ) fun hi => slT x lo hi
theorem reps_cut {F : Hp} {ds : List D} {vs : List V} (h : Reps K F ds vs) (l u : Option Int) : Reps K F (cutL ds l u) (cutV vs l u) := by
  have hl := pd_len (Reps.paired.mp h)
  unfold cutL cutV
  rw [hl]
  exact Reps.paired.mpr (pd_take _ (pd_drop _ (Reps.paired.mp h)))
theorem pd_slT {e : Expr} {lo hi : Option Expr} {te : TE} {tl tu : TO} {f : EF} {l u : OF} {p2 pos : Pos} (h : PD K X E e te f) (hl : PO' K X E lo tl l) (hu : PO' K X E hi tu u) (hK : X.K = K := by rfl) : PD K X E (.Subscript e (.Slice lo hi none p2) pos) (tSl (rSlT K) te tl tu) (eSlT f l u) := by
  subst hK
  obtain ⟨a1, a2⟩ := h
  obtain ⟨b1, b2⟩ := hl
  obtain ⟨c1, c2⟩ := hu
  refine ⟨pe_slice sl_tup a1 b1 c1, fun w σ ρ ev => ?_⟩
  show At X.K E w (fun Q => te σ w.H fun x H1 => tl σ H1 fun a H2 => tu σ H2 fun b H3 => rSlT X.K x a b H3 Q) _ _
  refine At.bind rv_m (a2 w σ ρ ev) fun x v w1 e1 s1 hx => At.bind rv_m (b2 w1 σ ρ (ev.ext e1)) fun a a' w2 e2 s2 ha => At.bind rv_m (c2 w2 σ ρ ((ev.ext e1).ext e2)) fun b b' w3 e3 s3 hb => ?_
  cases ha
  cases hb
  intro s r e Q k _
  unfold slT at e
  have hx := rd_ok s (e3.t (e2.t hx))
  split at e
  · rename_i xs hz
    rw [hz] at hx
    split at e
    · rename_i hne
      cases e
      obtain ⟨p0, vs, rfl, h2, h3⟩ := hx
      have hlen := pd_len (Reps.paired.mp h3)
      refine ⟨p0, vs, rfl, .of (s.sub _ _ h2), by rw [← hlen]; exact hne, fun p hp => ?_⟩
      obtain ⟨w4, q1, q2, q3, q4, q5⟩ := tup_new' s (reps_cut h3 a b) hp
      rw [← q1]
      exact k (.d (.tup (cutL xs a b))) w4 (.ref p) (by rw [q2]) q3 q4 q5
    · cases e
  · cases e
/-- tuple(xs), xs a list -/
def tupL (x : T) : M T := fun μ => match (lstOf μ (rd μ x)).bind (dTs μ) with
  | some ds => some (.ok (.d (.tup ds)) μ)
  | none => none
def eTupL (f : EF) : EF := fun ρ => mbind (f ρ) tupL
theorem pd_tupL {a : Expr} {t : TE} {f : EF} {p pos : Pos} (hm : X.mg "tuple" = none) (ha : PD K X E a t f) (hg : Gl X "tuple" := by rfl) (hK : X.K = K := by rfl)
    (he : starEach [a] X.env = (false, eval a X.env) :: starEach [] X.env := by rfl) (hpl : (backTo pos (starEach [] X.env)).any (·.1) = false := by rfl) :
    PD K X E (.Call (.Name "tuple" p) [a] [] pos) (tCB (fun xs H Q => ∃ p ys, xs = [.ref p] ∧ ((SqL K H p ys ∧ ∀ l, H l = none → Q (.ref l) (upd H l (.tup ys))) ∨ (SqT K H p ys ∧ Q (.ref p) H))) (tCons t tNil)) (eTupL f) := by
  subst hK
  refine ⟨pe_callTy call_tuple_of hg hm (by decide +kernel) (pa_cons ha.pe pa_nil he) (by decide) (by decide) he hpl, fun w σ ρ ev => ?_⟩
  show At X.K E w (fun (Q : VK) => t σ w.H fun x H1 => ∃ p ys, [x] = [V.ref p] ∧ ((SqL X.K H1 p ys ∧ ∀ l, H1 l = none → Q (V.ref l) (upd H1 l (.tup ys))) ∨ (SqT X.K H1 p ys ∧ Q (V.ref p) H1))) _ _
  refine At.bind rv_m (ha.ok w σ ρ ev) fun x v w1 e1 s1 hx => ?_
  intro s r e Q k _
  unfold tupL at e
  split at e
  · rename_i ds hd
    cases e
    obtain ⟨xs, h1, h2⟩ := Option.bind_eq_some_iff.mp hd
    obtain ⟨a', vs, h3, h4, h5⟩ := lst_ok s (rd_ok s hx) h1
    refine ⟨a', vs, by rw [h3], .inl ⟨h4, fun l hl => ?_⟩⟩
    obtain ⟨w4, q1, q2, q3, q4, q5⟩ := tup_new' s (dTs_ok s h5 h2) hl
    rw [← q1]
    exact k (.d (.tup ds)) w4 (.ref l) (by rw [q2]) q3 q4 q5
  · cases e
/-! ### k in d -/
def rInK : R2 := fun x y H Q => ∃ a o, y = .ref a ∧ DGet H a x o ∧ Q (.bl o.isSome) H
def rNotInK : R2 := fun x y H Q => ∃ a o, y = .ref a ∧ DGet H a x o ∧ Q (.bl (!o.isSome)) H
theorem op_inK (hu : X.A.units + 1 < cLine) : OpR X (compareOp .In) rInK := by
  intro pins s σ H x y v u Q I rx ry h
  obtain ⟨a, o, rfl, g, q⟩ := h
  cases ry
  exact d_in hu I g rx fun s3 I3 => ⟨.bl o.isSome, H, I3, rfl, q⟩
theorem op_notInK (hu : X.A.units + 1 < cLine) : OpR X (compareOp .NotIn) rNotInK := by
  intro pins s σ H x y v u Q I rx ry h
  obtain ⟨a, o, rfl, g, q⟩ := h
  cases ry
  exact d_notIn hu I g rx fun s3 I3 => ⟨.bl (!o.isSome), H, I3, rfl, q⟩
def gInD (n : Bool) : G2 := fun μ x y => match dctOf μ y, keyOf x with
  | some kvs, some k => some (.d (.bl (if n then !(valT kvs k).isSome else (valT kvs k).isSome)))
  | _, _ => none
theorem inD_get {w : Wd} (s : StOk K w) {x y : T} {vx vy : V} {kvs : List (Key × T)} {k : Key} (hx : w.t K x vx) (hy : w.t K y vy) (h1 : dctOf w.μ y = some kvs) (h2 : keyOf x = some k) : ∃ a o, vy = .ref a ∧ DGet w.H a vx o ∧ o.isSome = (valT kvs k).isSome := by
  obtain ⟨a, vs, e1, e2, e3⟩ := dct_ok s hy h1
  refine ⟨a, valV vs k, e1, ?_, ?_⟩
  · rw [keyOf_ok hx h2]
    exact .inl ⟨_, _, e2, rfl, rfl⟩
  · have q := valT_ok (k := k) e3
    cases hv : valT kvs k with
    | none => rw [hv] at q; rw [q] <;> rfl
    | some u => rw [hv] at q; obtain ⟨v, q1, _⟩ := q; rw [q1] <;> rfl
theorem od_inD (hu : X.A.units + 1 < cLine) : OpD K X (compareOp .In) rInK (gInD false) := ⟨op_inK hu, fun w x y vx vy z s hx hy e => by
  unfold gInD at e
  split at e
  · rename_i kvs k h1 h2
    cases e
    obtain ⟨a, o, e1, e2, e3⟩ := inD_get s hx hy h1 h2
    exact ⟨_, rfl, fun Q q => ⟨a, o, e1, e2, by rw [e3]; exact q⟩⟩
  · cases e⟩
theorem od_notInD (hu : X.A.units + 1 < cLine) : OpD K X (compareOp .NotIn) rNotInK (gInD true) := ⟨op_notInK hu, fun w x y vx vy z s hx hy e => by
  unfold gInD at e
  split at e
  · rename_i kvs k h1 h2
    cases e
    obtain ⟨a, o, e1, e2, e3⟩ := inD_get s hx hy h1 h2
    exact ⟨_, rfl, fun Q q => ⟨a, o, e1, e2, by rw [e3]; exact q⟩⟩
  · cases e⟩
/-! ### a comprehension over a dict that a field holds -/
def lkF (c f : Str) (i : Nat) : Look := fun ρ μ => (slotT ρ i).bind fun x => fldT μ c f x
theorem dpl_f {c f : Str} {i : Nat} (hc : clsAt K c (clsC K c)) (cl : Cls K (clsC K c)) (na : NoAttr K (clsC K c) f) : Dpl K (tFld K (tVar i) f) (lkF c f i) := ⟨fun w σ ρ x ev s h => by
  obtain ⟨y, h1, h2⟩ := Option.bind_eq_some_iff.mp h
  obtain ⟨v, hσ, hv⟩ := ev.2 i y (slotT_some h1)
  unfold fldT at h2
  split at h2
  · rename_i n
    split at h2
    · rename_i c' fs hn
      split at h2
      · rename_i hcc
        subst hcc
        obtain ⟨a, dx, gs, C, k1, k2, k3, k4, k5, k6⟩ := objC_ok s hv hn
        obtain rfl := k3.uniq hc
        obtain ⟨u, q1, q2⟩ := lookup_pd k6 h2
        refine ⟨u, q2, fun H' Q hH q => ?_⟩
        show tVar i σ H' fun x H1 => ∃ a C dx fs v, x = .ref a ∧ H1 a = some (.ins C dx fs) ∧ Cls K C ∧ NoAttr K C f ∧ fs.lookup f = some v ∧ Q v H1
        exact ⟨v, hσ, a, _, dx, gs, u, k1, (hH a _ _ _ k5).trans k5, cl, na, q1, q⟩
      · cases h2
    · cases h2
  · cases h2⟩
/-! ### a, b = x, y -/
def sPar (i j : Nat) (f : AF) : SF := fun ρ => mbind (f ρ) fun xs μ => match xs with
  | [a, b] => some (.ok (.nx, (ρ.set i (some a)).set j (some b)) μ)
  | _ => none
theorem st_par (i j : Nat) {x y : Str} {a b : Expr} {ta : TA} {fa : AF} {px py pt pos : Pos} {kt k2 pt2} (hl : PL K X E [a, b] ta fa) (hN : X.N.Nodup) (hi : X.N[i]? = some x := by rfl) (hj : X.N[j]? = some y := by rfl) (hij : i ≠ j := by decide)
    (hx : X.env.scope.names.lookup x = some .local := by rfl) (hy : X.env.scope.names.lookup y = some .local := by rfl)
    (hw : swappedStores [.Tuple [.Name x px, .Name y py] kt pt] (.Tuple [a, b] k2 pt2) X.env = pure (some [x, y]) := by rfl)
    (hs : swapsWithSole [.Tuple [.Name x px, .Name y py] kt pt] (.Tuple [a, b] k2 pt2) pos.line X.env = pure false := by rfl) (hc : X.calm = true := by rfl) :
    PSt K X E (.Assign [.Tuple [.Name x px, .Name y py] kt pt] (.Tuple [a, b] k2 pt2) pos) (tPar i j ta) (sPar i j fa) := by
  refine ⟨ps_par hc hN hi hj hij hx hy hl.pe hw hs, fun w σ ρ ev s r er D P => ?_⟩
  show ta σ w.H fun vs H1 => ∃ v u, vs = [v, u] ∧ D.nx ((σ.set i (some v)).set j (some u)) H1
  refine At.use (hl.ok w σ ρ ev) s er _ (fun xs w1 vs _ e1 x1 s1 hxs => ?_) P.2
  match xs, e1, hxs with
  | [a, b], e1, hxs =>
    obtain ⟨v, u, rfl, h1, h2⟩ := two_of hxs
    cases e1
    exact ⟨v, u, rfl, P.1 .nx _ w1 rfl x1 s1 _ (env_set (env_set (ev.ext x1) i h1) j h2)⟩
  | [], e1, _ => cases e1
  | [_], e1, _ => cases e1
  | _ :: _ :: _ :: _, e1, _ => cases e1
end
end Fm
set_option Elab.async false
set_option linter.all false
set_option maxRecDepth 100000
namespace Fm
open PySem L2 PySem.Spec PyProof.Rows
section
variable {X : Cx} {E : XK} {K : PySem.W.Frag} {k : Nat}
/-! ### dicts whose keys are tuples -/
def keyF : D → Option Key
  | .int i => some (.inl i)
  | .str s => some (.inr s)
  | _ => none
def keysF : List D → Option (List Key)
  | [] => some []
  | d :: r => match keyF d, keysF r with
    | some k, some ks => some (k :: ks)
    | _, _ => none
def keyU : T → Option (List Key)
  | .d (.tup ds) => keysF ds
  | _ => none
theorem keyF_ok {F : Hp} {d : D} {v : V} {k : Key} (h : Rep K F d v) (e : keyF d = some k) : v = kV k := by
  cases d with
  | int i => cases e; exact h
  | str i => cases e; exact h
  | _ => cases e
theorem keysF_ok {F : Hp} : ∀ {ds : List D} {vs : List V} {ks : List Key}, Reps K F ds vs → keysF ds = some ks → vs = ks.map kV
  | [], _, _, h, e => by cases e; exact h
  | d :: ds, _, ks, ⟨v, r, h1, h2, h3⟩, e => by
    unfold keysF at e
    split at e
    · rename_i k ks' e1 e2
      cases e
      rw [h1, keyF_ok h2 e1, keysF_ok h3 e2]
      rfl
    · cases e
theorem keyU_ok {w : Wd} (s : StOk K w) {x : T} {v : V} {ks : List Key} (h : w.t K x v) (e : keyU x = some ks) : ∃ b, v = .ref b ∧ w.F b = some (.tup (ks.map kV)) := by
  unfold keyU at e
  split at e
  · rename_i ds
    obtain ⟨a, vs, h1, h2, h3⟩ := h
    exact ⟨a, h1, by rw [h2, keysF_ok h3 e]⟩
  · cases e
def dcuC (μ : Mu) : T → Option (Nat × List (List Key × T))
  | .p n => match μ[n]? with
    | some (.dcu xs) => some (n, xs)
    | _ => none
  | _ => none
theorem dcuC_ok {w : Wd} (s : StOk K w) {x : T} {v : V} {n : Nat} {xs : List (List Key × T)} (h : w.t K x v) (e : dcuC w.μ x = some (n, xs)) : ∃ a vs, v = .ref a ∧ w.A[n]? = some a ∧ w.μ[n]? = some (.dcu xs) ∧ w.F a = none ∧ w.H a = some (.dT vs) ∧ Paired (fun p q => p.1 = q.1 ∧ w.t K p.2 q.2) xs vs := by
  unfold dcuC at e
  split at e
  · rename_i n'
    split at e
    · rename_i ys hy
      cases e
      obtain ⟨a, h1, h2⟩ := h
      obtain ⟨hF, vs, q1, q2⟩ := s.cell _ a _ h1 hy
      exact ⟨a, vs, h2, h1, hy, hF, q1, q2⟩
    · cases e
  · cases e
def valU (kvs : List (List Key × T)) (k : List Key) : Option T := (kvs.find? fun kv => decide (kv.1 = k)).map (·.2)
theorem valU_ok {R : T → V → Prop} : ∀ {xs : List (List Key × T)} {vs : List (List Key × V)} {k : List Key}, Paired (fun p q => p.1 = q.1 ∧ R p.2 q.2) xs vs → match valU xs k with
    | some x => ∃ v, valV vs k = some v ∧ R x v
    | none => valV vs k = none
  | [], _, _, .nil => rfl
  | (a, x) :: xs, (b, v) :: vs, k, .cons h t => by
    obtain ⟨e, r⟩ := h
    cases e
    by_cases ek : a = k
    · have h1 : valU ((a, x) :: xs) k = some x := by simp [valU, List.find?_cons, ek]
      rw [h1]
      exact ⟨v, by simp [valV, List.find?_cons, ek], r⟩
    · have h1 : valU ((a, x) :: xs) k = valU xs k := by simp [valU, List.find?_cons, ek]
      have h2 : valV ((a, v) :: vs) k = valV vs k := by simp [valV, List.find?_cons, ek]
      rw [h1, h2]
      exact valU_ok t
def putU (kvs : List (List Key × T)) (k : List Key) (v : T) : List (List Key × T) := if (kvs.any fun kv => decide (kv.1 = k)) = true then kvs.map fun kv => if kv.1 = k then (kv.1, v) else kv else kvs ++ [(k, v)]
theorem putU_ok {R : T → V → Prop} {k : List Key} {x : T} {v : V} (hr : R x v) {xs : List (List Key × T)} {vs : List (List Key × V)} (h : Paired (fun p q => p.1 = q.1 ∧ R p.2 q.2) xs vs) : Paired (fun p q => p.1 = q.1 ∧ R p.2 q.2) (putU xs k x) (putK vs k v) := by
  have ha : (xs.any fun kv => decide (kv.1 = k)) = (vs.any fun kv => decide (kv.1 = k)) := by
    induction h with
    | nil => rfl
    | cons a b ih => rw [List.any_cons, List.any_cons, ih, a.1]
  unfold putU putK
  rw [ha]
  split
  · refine pd_map _ _ (fun a b q => ?_) h
    rw [q.1]
    split
    · exact ⟨rfl, hr⟩
    · exact q
  · exact pd_app h (.cons ⟨rfl, hr⟩ .nil)
/-- {} -/
def cDcu0 : CF := fun _ => mret (.dcu [])
theorem pc_dcu0 {pos : Pos} : PCr K X E (.Dict [] [] pos) tDNewT cDcu0 := by
  refine ⟨pe_dnewT, fun w σ ρ ev => ?_⟩
  have q := at_new (E := E) (w := w) (t := fun Q => ∀ p, w.H p = none → Q (.ref p) (upd w.H p (.dT []))) (o := some (Cell.dcu [])) (K := K) fun s c hc => by
    cases hc
    exact ⟨.dT [], .nil, fun Q q => q⟩
  exact q
/-- d[k] = e -/
def setU (μ : Mu) (x k v : T) : Option Mu := match dcuC μ x, keyU k with
  | some (n, ys), some j => if ys.length < SL then some (μ.set n (.dcu (putU ys j v))) else none
  | _, _ => none
theorem CellOk.dcu_upd {w : Wd} {a : Addr} {xs : List (List Key × T)} {vs : List (List Key × V)} (hF : w.F a = none) (h : Paired (fun p q => p.1 = q.1 ∧ w.t K p.2 q.2) xs vs) : CellOk K { w with H := upd w.H a (.dT vs) } a (.dcu xs) := ⟨hF, vs, upd_same, h⟩
theorem sok_setU {tv to tk : TE} {fv fo fk : EF} (hv : EOk K E tv fv) (ho : EOk K E to fo) (hk : EOk K E tk fk) : SOk K E (sDPut to tk tv) (sPut setU fv fo fk) := fun w σ ρ ev s r e D P => by
  show tv σ w.H fun v H1 => to σ H1 fun x H2 => tk σ H2 fun y H3 => ∃ a H4, x = .ref a ∧ DPut H3 a y v H4 ∧ D.nx σ H4
  refine At.use (hv w σ ρ ev) s e _ (fun xv w1 v _ e1 x1 s1 hxv => ?_) P.2
  refine At.use (ho w1 σ ρ (ev.ext x1)) s1 e1 _ (fun xo w2 o _ e2 x2 s2 hxo => ?_) fun a w' cls d z e' => P.2 a w' cls d z (x1.trans e')
  refine At.use (hk w2 σ ρ ((ev.ext x1).ext x2)) s2 e2 _ (fun xk w3 i _ e3 x3 s3 hxk => ?_) fun a w' cls d z e' => P.2 a w' cls d z ((x1.trans x2).trans e')
  have e3 : (match setU w3.μ xo (rd w3.μ xk) xv with
    | some μ' => some (Rs.ok (Fl.nx, ρ) μ')
    | none => none) = some r := e3
  have hxk := rd_ok s3 hxk
  generalize rd w3.μ xk = yk at e3 hxk
  split at e3
  · rename_i μ' hμ
    cases e3
    unfold setU at hμ
    split at hμ
    · rename_i n ys j hl hj
      split at hμ
      · rename_i hsz
        cases hμ
        obtain ⟨a, vs, h1, h2, h3, h4, h5, h6⟩ := dcuC_ok s3 (x3.t hxo) hl
        obtain ⟨b, hb1, hb2⟩ := keyU_ok s3 hxk hj
        refine ⟨a, _, h1, by rw [hb1]; exact DPut.t h5 (s3.sub _ _ hb2) (by rw [← pd_len h6, sizeLine_eq]; exact hsz), ?_⟩
        obtain ⟨k1, k2⟩ := wr_ok s3 h2 h3 rfl (c' := .dcu (putU ys j xv)) rfl (CellOk.dcu_upd h4 (putU_ok ((x2.trans x3).t hxv) h6))
        exact P.1 .nx ρ _ rfl ((x1.trans (x2.trans x3)).trans k2) k1 σ ((ev.ext (x1.trans (x2.trans x3))).ext k2)
      · cases hμ
    · cases hμ
  · cases e3
section
variable {o i e : Expr} {pos pos' : Pos} {to tk tv : TE} {fo fk fv : EF}
theorem st_setU (hu : X.A.units + 1 < cLine) (hv : PD K X E e tv fv) (ho : PD K X E o to fo) (hk : PD K X E i tk fk) (hs : swapsWith e (some (.Subscript o i pos')) pos.line X.env = pure false := by rfl) : PSt K X E (.Assign [.Subscript o i pos'] e pos) (sDPut to tk tv) (sPut setU fv fo fk) :=
  ⟨ps_dput hu ho.pe hk.pe hv.pe hs, sok_setU hv.ok ho.ok hk.ok⟩
end
/-- what stands at a key -/
theorem dcu_get {w : Wd} (s : StOk K w) {x y : T} {vx vy : V} {n : Nat} {kvs : List (List Key × T)} {k : List Key} (hx : w.t K x vx) (hy : w.t K y vy) (h1 : dcuC w.μ x = some (n, kvs)) (h2 : keyU y = some k) : ∃ a vs, vx = .ref a ∧ w.H a = some (.dT vs) ∧ DGet w.H a vy (valV vs k) ∧ (match valU kvs k with
    | some x => ∃ v, valV vs k = some v ∧ w.t K x v
    | none => valV vs k = none) := by
  obtain ⟨a, vs, q1, q2, q3, q4, q5, q6⟩ := dcuC_ok s hx h1
  obtain ⟨b, hb1, hb2⟩ := keyU_ok s hy h2
  refine ⟨a, vs, q1, q5, ?_, valU_ok q6⟩
  rw [hb1]
  exact DGet.t q5 (s.sub _ _ hb2)
/-- d[k] -/
def gIxU : G2 := fun μ x y => match dcuC μ x, keyU y with
  | some (_, kvs), some k => (valU kvs k).map (rd μ)
  | _, _ => none
theorem pd_ixU {a b : Expr} {ta tb : TE} {fa fb : EF} {pos : Pos} (hu : X.A.units + 1 < cLine) (ha : PD K X E a ta fa) (hb : PD K X E b tb fb) (hK : X.K = K := by rfl) (hs : PlainIx b := by exact fun _ _ => rfl) : PD K X E (.Subscript a b pos) (tOp rIxD ta tb) (eOp gIxU fa fb) := by
  subst hK
  refine ⟨pe_ix (ix_dict hu) ha.pe hb.pe hs, eok_op (fun w x y vx vy z s hx hy e => ?_) ha.ok hb.ok⟩
  unfold gIxU at e
  split at e
  · rename_i n kvs k h1 h2
    obtain ⟨z0, h3, h4⟩ := Option.map_eq_some_iff.mp e
    obtain ⟨a, vs, q1, q2, q3, q4⟩ := dcu_get s hx hy h1 h2
    rw [h3] at q4
    obtain ⟨v, q5, q6⟩ := q4
    rw [q5] at q3
    exact ⟨v, h4 ▸ rd_ok s q6, fun Q q => ⟨a, v, q1, q3, q⟩⟩
  · cases e
/-- k in d -/
def gInU (n : Bool) : G2 := fun μ x y => match dcuC μ y, keyU x with
  | some (_, kvs), some k => some (.d (.bl (if n then !(valU kvs k).isSome else (valU kvs k).isSome)))
  | _, _ => none
theorem od_inU (hu : X.A.units + 1 < cLine) : OpD K X (compareOp .In) rInK (gInU false) := ⟨op_inK hu, fun w x y vx vy z s hx hy e => by
  unfold gInU at e
  split at e
  · rename_i n kvs k h1 h2
    cases e
    obtain ⟨a, vs, q1, q2, q3, q4⟩ := dcu_get s hy hx h1 h2
    refine ⟨_, rfl, fun Q q => ⟨a, _, q1, q3, ?_⟩⟩
    cases hv : valU kvs k with
    | none => rw [hv] at q4 q; rw [q4]; exact q
    | some u => rw [hv] at q4 q; obtain ⟨v, q5, _⟩ := q4; rw [q5]; exact q
  · cases e⟩
theorem od_notInU (hu : X.A.units + 1 < cLine) : OpD K X (compareOp .NotIn) rNotInK (gInU true) := ⟨op_notInK hu, fun w x y vx vy z s hx hy e => by
  unfold gInU at e
  split at e
  · rename_i n kvs k h1 h2
    cases e
    obtain ⟨a, vs, q1, q2, q3, q4⟩ := dcu_get s hy hx h1 h2
    refine ⟨_, rfl, fun Q q => ⟨a, _, q1, q3, ?_⟩⟩
    cases hv : valU kvs k with
    | none => rw [hv] at q4 q; rw [q4]; exact q
    | some u => rw [hv] at q4 q; obtain ⟨v, q5, _⟩ := q4; rw [q5]; exact q
  · cases e⟩
/-- d.get(k, e) -/
def eGetU (fo fk fd : EF) : EF := fun ρ => mbind (fo ρ) fun x μ => if (dcuC μ x).isSome = true then mbind (fk ρ) (fun y => mbind (fd ρ) fun z μ2 => mof (match dcuC μ2 x, keyU (rd μ2 y) with
  | some (_, kvs), some k => some (rd μ2 ((valU kvs k).getD z))
  | _, _ => none) μ2) μ else none
theorem pd_getU {o e f : Expr} {to te tf : TE} {fo fe ff : EF} {apos cpos : Pos} (hu : X.A.units + 1 < cLine) (ho : PD K X E o to fo) (he : PD K X E e te fe) (hf : PD K X E f tf ff) (m : M2 X o "get" apos e f cpos := by exact ⟨rfl, rfl, rfl, rfl⟩) :
    PD K X E (.Call (.Attribute o "get" apos) [e, f] [] cpos) (tDGet2 to te tf) (eGetU fo fe ff) := by
  refine ⟨pe_dget2 hu ho.pe he.pe hf.pe m, fun w σ ρ ev s r er Q q1 q2 => ?_⟩
  show to σ w.H fun x H1 => ∃ a, x = .ref a ∧ IsD H1 a ∧ te σ H1 fun y H2 => tf σ H2 fun z H3 => ∃ o, DGet H3 a y o ∧ Q (o.getD z) H3
  refine At.use (ho.ok w σ ρ ev) s er _ (fun x w1 v _ er1 e1 s1 hx => ?_) q2
  have er1 : (if (dcuC w1.μ x).isSome = true then mbind (fe ρ) (fun y => mbind (ff ρ) fun z μ2 => mof (match dcuC μ2 x, keyU (rd μ2 y) with
    | some (_, kvs), some k => some (rd μ2 ((valU kvs k).getD z))
    | _, _ => none) μ2) w1.μ else none) = some r := er1
  split at er1
  · rename_i hsm
    obtain ⟨⟨n, kvs⟩, hk⟩ := Option.isSome_iff_exists.mp hsm
    obtain ⟨a, vs, p1, p2, p3, p4, p5, p6⟩ := dcuC_ok s1 hx hk
    refine ⟨a, p1, .inr ⟨vs, .inl p5⟩, At.use (he.ok w1 σ ρ (ev.ext e1)) s1 er1 _ (fun y w2 vy _ er2 e2 s2 hy => ?_) fun a w' cls d z e' => q2 a w' cls d z (e1.trans e')⟩
    refine At.use (hf.ok w2 σ ρ ((ev.ext e1).ext e2)) s2 er2 _ (fun z w3 vz _ er3 e3 s3 hz => ?_) fun a w' cls d z e' => q2 a w' cls d z ((e1.trans e2).trans e')
    have er3 : mof (match dcuC w3.μ x, keyU (rd w3.μ y) with
      | some (_, kvs), some k => some (rd w3.μ ((valU kvs k).getD z))
      | _, _ => none) w3.μ = some r := er3
    split at er3
    · rename_i n' kvs' k h1 h2
      cases er3
      have hx3 := (e2.trans e3).t hx
      rw [p1] at hx3
      obtain ⟨a', vs', g1, g2, g3, g4⟩ := dcu_get s3 hx3 (rd_ok s3 (e3.t hy)) h1 h2
      cases g1
      refine ⟨_, g3, ?_⟩
      refine q1 _ w3 _ rfl ((e1.trans e2).trans e3) s3 (rd_ok s3 ?_)
      cases hv : valU kvs' k with
      | none => rw [hv] at g4; rw [g4]; exact hz
      | some u => rw [hv] at g4; obtain ⟨v, g5, g6⟩ := g4; rw [g5]; exact g6
    · cases er3
  · cases er1
end
end Fm
set_option Elab.async false
set_option linter.all false
set_option maxRecDepth 100000
namespace Fm
open PySem L2 PySem.Spec PyProof.Rows
section
variable {X : Cx} {E : XK} {K : PySem.W.Frag} {k : Nat}
/-! ### xs * n -/
def repC (μ : Mu) (x y : T) : Option Cell := match lstTr μ x, y with
  | some xs, .d (.int k) => if 0 ≤ k ∧ k ≤ 1000 ∧ xs.length ≤ 1000 then some (.lst (List.replicate k.toNat xs).flatten) else none
  | _, _ => none
theorem pd_rep {α β : Type} {R : α → β → Prop} {l : List α} {m : List β} (h : Paired R l m) : ∀ n : Nat, Paired R (List.replicate n l).flatten (List.replicate n m).flatten
  | 0 => .nil
  | n + 1 => by
    rw [List.replicate_succ, List.replicate_succ, List.flatten_cons, List.flatten_cons]
    exact pd_app h (pd_rep h n)
def cRep (fa fb : EF) : CF := fun ρ => mbind (fa ρ) fun x => mbind (fb ρ) fun y μ => mof (repC μ (rd μ x) (rd μ y)) μ
theorem pc_rep {a b : Expr} {ta tb : TE} {fa fb : EF} {pos : Pos} (ha : PD K X E a ta fa) (hb : PD K X E b tb fb) : PCr K X E (.BinOp a .Mult b pos) (tOp rRep ta tb) (cRep fa fb) := by
  refine ⟨pe_op op_rep ha.pe hb.pe, fun w σ ρ ev => ?_⟩
  show At K E w (fun Q => ta σ w.H fun x H1 => tb σ H1 fun y H2 => rRep x y H2 Q) _ _
  refine At.bind rc_m (ha.ok w σ ρ ev) fun x v w1 e1 s1 hx => At.bind rc_m (hb.ok w1 σ ρ (ev.ext e1)) fun y u w2 e2 s2 hy => ?_
  have q := at_new (K := K) (E := E) (w := w2) (t := rRep v u w2.H) (o := repC w2.μ (rd w2.μ x) (rd w2.μ y)) fun s c hc => by
    have hy := rd_ok s hy
    generalize rd w2.μ y = yy at hc hy
    unfold repC at hc
    split at hc
    · rename_i xs k h1
      split at hc
      · rename_i hl
        cases hc
        obtain ⟨a, vs, a1, a2, a3⟩ := lstTr_ok s (rd_ok s (e2.t hx)) h1
        have hn : k.toNat ≤ 1000 := by omega
        have hvl : vs.length ≤ 1000 := by rw [← pd_len a3]; exact hl.2.2
        exact ⟨.lst (List.replicate k.toNat vs).flatten, pd_rep a3 _, fun Q q => ⟨a, k, vs, a1, hy, a2, by omega, by omega, Nat.le_trans (Nat.mul_le_mul hvl hn) (by decide), q⟩⟩
      · cases hc
    · cases hc
  exact q
/-! ### text * n -/
def repS (z : Str) (n : Nat) : Str := ⟨(List.replicate n z.cps.toList).flatten.toArray⟩
def rRepS : R2 := fun x y H Q => ∃ z k, x = .str z ∧ y = .int k ∧ 0 ≤ k ∧ k ≤ 1000 ∧ z.length ≤ 1000 ∧ Q (.str (repS z k.toNat)) H
theorem foldl_repS {α : Type} (l : Array α) : ∀ n : Nat, ∀ acc : Array α, (List.replicate n l).foldl (· ++ ·) acc = acc ++ (List.replicate n l.toList).flatten.toArray
  | 0, acc => by simp
  | n + 1, acc => by
    rw [List.replicate_succ, List.foldl_cons, foldl_repS l n, List.replicate_succ, List.flatten_cons, Array.append_assoc]
    congr 1
    simp
theorem repS_len (z : Str) (n : Nat) : (repS z n).length = n * z.length := by
  show (List.replicate n z.cps.toList).flatten.toArray.size = n * z.cps.size
  rw [List.size_toArray]
  induction n with
  | zero => simp
  | succ n ih => rw [List.replicate_succ, List.flatten_cons, List.length_append, ih, Nat.succ_mul, Array.length_toList, Nat.add_comm]
theorem op_repS : OpR X (binaryOp .Mult) rRepS := by
  intro pins s σ H x y v u Q I rx ry h
  obtain ⟨z, k, rfl, rfl, h1, h2, h3, q⟩ := h
  obtain ⟨t, rfl⟩ := rx
  obtain ⟨t', rfl⟩ := ry
  have hn : k.toNat ≤ 1000 := by omega
  have hlen : z.length * k.toNat ≤ 1000000 := Nat.le_trans (Nat.mul_le_mul h3 hn) (by decide)
  have hz : (z.length : Int) ≤ 1000 := by omega
  refine PySem.P.mul_str (by
      have a1 : ¬ k < -(2 ^ 63 : Int) := by omega
      have a2 : ¬ k ≥ (2 ^ 63 : Int) := by omega
      rw [decide_eq_false a1, decide_eq_false a2]; rfl) (fun hk _ => ?_) (fun hk _ => ?_) ?_
  · intro hgt
    have hk1 : 0 < k := by omega
    have e1 : k * ((2 ^ 63 - 1) / k : Int) + (2 ^ 63 - 1) % k = 2 ^ 63 - 1 := Int.mul_ediv_add_emod _ _
    have e2 : (2 ^ 63 - 1 : Int) % k < k := Int.emod_lt_of_pos _ hk1
    have e3 : k * ((2 ^ 63 - 1) / k : Int) ≤ 1000 * 1000 := by
      have : ((2 ^ 63 - 1) / k : Int) ≤ 1000 := by omega
      exact Int.le_trans (Int.mul_le_mul_of_nonneg_left this (by omega)) (Int.mul_le_mul_of_nonneg_right h2 (by omega))
    omega
  · unfold Builtin.Str.tooLong
    exact decide_eq_false (by rw [sizeLine_eq]; omega)
  · split
    · rename_i hk
      have hk0 : k.toNat = 0 := by omega
      rw [hk0] at q
      have : repS z 0 = Str.empty := rfl
      rw [this] at q
      exact ⟨by decide, ⟨.str Str.empty, H, I.tok _, ⟨_, rfl⟩, q⟩⟩
    · split
      · rename_i hk hor
        have hsame : repS z k.toNat = z := by
          rcases Bool.or_eq_true_iff.mp hor with e | e
          · have : k = 1 := by simpa using e
            subst this
            show (⟨(List.replicate 1 z.cps.toList).flatten.toArray⟩ : Str) = z
            simp
          · have e : z.cps.size = 0 := by simpa [Str.length] using e
            have e0 : z.cps = #[] := Array.eq_empty_of_size_eq_zero e
            obtain ⟨c⟩ := z
            simp only at e0
            subst e0
            show (⟨(List.replicate k.toNat ([] : List _)).flatten.toArray⟩ : Str) = ⟨#[]⟩
            simp
        rw [hsame] at q
        exact ⟨.str z, H, I, ⟨_, rfl⟩, q⟩
      · have e := foldl_repS z.cps k.toNat #[]
        rw [show (#[] ++ (List.replicate k.toNat z.cps.toList).flatten.toArray) = (List.replicate k.toNat z.cps.toList).flatten.toArray by simp] at e
        refine ⟨?_, ?_⟩
        · rw [e]
          show (repS z k.toNat).length ≤ _
          rw [repS_len, sizeLine_eq, Nat.mul_comm]
          omega
        · rw [e]
          exact ⟨.str (repS z k.toNat), H, I.tok _, ⟨_, rfl⟩, q⟩
def gMulS : G2 := fun _ x y => match x, y with
  | .d (.str z), .d (.int k) => if 0 ≤ k ∧ k ≤ 1000 ∧ z.length ≤ 1000 then some (.d (.str (repS z k.toNat))) else none
  | _, _ => none
theorem od_mulS : OpD K X (binaryOp .Mult) rRepS gMulS := ⟨op_repS, fun w x y vx vy z s hx hy e => by
  unfold gMulS at e
  split at e
  · rename_i t k
    split at e
    · rename_i h
      cases e
      exact ⟨_, rfl, fun Q q => ⟨t, k, hx, hy, h.1, h.2.1, h.2.2, q⟩⟩
    · cases e
  · cases e⟩
end
end Fm
set_option Elab.async false
set_option linter.all false
set_option maxRecDepth 100000
namespace Fm
open PySem L2 PySem.Spec PyProof.Rows
section
variable {X : Cx} {E : XK} {K : PySem.W.Frag} {k : Nat}
/-! ### max(xs) -/
def intsT : List T → Option (List Int)
  | [] => some []
  | .d (.int i) :: r => (intsT r).map (i :: ·)
  | _ :: _ => none
theorem intsT_ok {w : Wd} : ∀ {xs : List T} {vs : List V} {ns : List Int}, Paired (w.t K) xs vs → intsT xs = some ns → vs = ns.map V.int
  | [], _, _, .nil, e => by cases e; rfl
  | x :: xs, v :: vs, ns, .cons h t, e => by
    unfold intsT at e
    split at e
    · rename_i hz
      cases hz
    · rename_i i r hz
      cases hz
      obtain ⟨ms, h1, h2⟩ := Option.map_eq_some_iff.mp e
      rw [← h2, intsT_ok t h1, show v = .int i from h]
      rfl
    · cases e
def gMaxL (μ : Mu) (xs : List T) : Option T := match xs with
  | [x] => ((lstOf μ x).bind intsT).bind fun ns => ns.max?.map fun m => .d (.int m)
  | _ => none
theorem bi_maxL (hc : X.calm = true := by rfl) (hK : X.K = K := by rfl) : BI K X (.builtin "max") (rMax K) gMaxL := by
  subst hK
  refine ⟨cr_max hc, fun w xs vs z s hx e => ?_⟩
  unfold gMaxL at e
  split at e
  · obtain ⟨v, rfl, hv⟩ := one_of hx
    obtain ⟨ns, h1, h2⟩ := Option.bind_eq_some_iff.mp e
    obtain ⟨ys, h3, h4⟩ := Option.bind_eq_some_iff.mp h1
    obtain ⟨m, h5, h6⟩ := Option.map_eq_some_iff.mp h2
    obtain ⟨a, us, q1, q2, q3⟩ := lst_ok s hv h3
    have q4 := intsT_ok q3 h4
    subst q4
    have hm := List.max?_eq_some_iff.mp h5
    refine ⟨.int m, by rw [← h6]; rfl, fun Q q => ⟨a, ns, by rw [q1], q2, ?_, fun m' hm1 hm2 => ?_⟩⟩
    · exact List.length_pos_of_mem hm.1
    · have : m' = m := Int.le_antisymm (hm.2 m' hm1) (hm2 m hm.1)
      rw [this]
      exact q
  · cases e
/-! ### list(range(a, b)) -/
def lrgC (x y : T) : Option Cell := match x, y with
  | .d (.int i), .d (.int j) => if -1000000 ≤ i ∧ i ≤ 1000000 ∧ -1000000 ≤ j ∧ j ≤ 1000000 then some (.lst (rngL i (j - i).toNat)) else none
  | _, _ => none
def cLstRg (fa fb : EF) : CF := fun ρ => mbind (fa ρ) fun x => mbind (fb ρ) fun y μ => mof (lrgC (rd μ x) (rd μ y)) μ
theorem rgV_pd {w : Wd} (i : Int) (n : Nat) : Paired (w.t K) (rngL i n) ((List.range n).map fun k => V.int (i + (k : Nat))) := by
  unfold rngL
  generalize List.range n = l
  induction l with
  | nil => exact .nil
  | cons a r ih => exact .cons rfl ih
theorem pc_lstRg {a b : Expr} {ta tb : TE} {fa fb : EF} {p p2 pos pos2 : Pos} (hc : X.calm = true) (hml : X.mg "list" = none) (hmr : X.mg "range" = none) (ha : PD K X E a ta fa) (hb : PD K X E b tb fb) (hgl : Gl X "list" := by rfl) (hgr : Gl X "range" := by rfl)
    (na : starEach [a, b] X.env = (false, eval a X.env) :: starEach [b] X.env := by rfl) (nb : starEach [b] X.env = (false, eval b X.env) :: starEach [] X.env := by rfl) (hp : (backTo pos2 (starEach [b] X.env)).any (·.1) = false := by rfl)
    (nl : starEach [.Call (.Name "range" p2) [a, b] [] pos2] X.env = (false, eval (.Call (.Name "range" p2) [a, b] [] pos2) X.env) :: starEach [] X.env := by rfl) :
    PCr K X E (.Call (.Name "list" p) [.Call (.Name "range" p2) [a, b] [] pos2] [] pos) (tLstRg (tRg2 ta tb)) (cLstRg fa fb) := by
  refine ⟨pe_listRg hc hgl hml (prg_2 hgr hmr ha.pe hb.pe na nb hp) nl, fun w σ ρ ev => ?_⟩
  show At K E w (fun (Q : VK) => ta σ w.H fun x H1 => tb σ H1 fun y H2 => ∃ i j, x = V.int i ∧ y = V.int j ∧ (RgOk i j ∧ ∀ q, H2 q = none → Q (V.ref q) (upd H2 q (.lst (rgV i j))))) _ _
  refine At.bind rc_m (ha.ok w σ ρ ev) fun x v w1 e1 s1 hx => At.bind rc_m (hb.ok w1 σ ρ (ev.ext e1)) fun y u w2 e2 s2 hy => ?_
  have q := at_new (K := K) (E := E) (w := w2) (t := fun Q => ∃ i j, v = V.int i ∧ u = V.int j ∧ (RgOk i j ∧ ∀ q, w2.H q = none → Q (V.ref q) (upd w2.H q (.lst (rgV i j))))) (o := lrgC (rd w2.μ x) (rd w2.μ y)) fun s c hc => by
    have hx := rd_ok s (e2.t hx)
    have hy := rd_ok s hy
    generalize rd w2.μ x = xx at hc hx
    generalize rd w2.μ y = yy at hc hy
    unfold lrgC at hc
    split at hc
    · rename_i i j
      split at hc
      · rename_i hl
        cases hc
        exact ⟨.lst (rgV i j), rgV_pd i _, fun Q q => ⟨i, j, hx, hy, ⟨by omega, by omega, by omega, by omega, by omega⟩, q⟩⟩
      · cases hc
    · cases hc
  exact q
end
end Fm
set_option Elab.async false
set_option linter.all false
set_option maxRecDepth 100000
namespace Fm
open PySem L2 PySem.Spec PyProof.Rows
section
variable {X : Cx} {E : XK} {K : PySem.W.Frag} {k : Nat}
/-! ### for k in d -/
def sForD (look : Look) (gf : GF) (b : SF) : SF := fun ρ μ => match (look ρ μ).bind fun x => keysD (rd μ x) with
  | some ks => noex (forL gf b (ks.map keyT) ρ) μ
  | none => none
abbrev sForK (i : Nat) (gf : GF) (b : SF) : SF := sForD (lkV i) gf b
/-- the turns -/
theorem for_core {is : List Nat} {g : TG} {tb : TS} {gf : GF} {b : SF} {w' : Wd} {σ : L2.St} {ρ : Rho} {xs : List T} {r : Rs (Fl × Rho)} {D : Ends} {J : It} {G : Hp → Prop} {Y : Nat → Hp → V → Hp → Prop} (hg : GOk K is g gf) (hgn : GNo gf) (hb : SOk K E tb b) (ev : EnvOk K w' σ ρ) (s1 : StOk K w') (wk : Walk J xs.length G Y) (yl : Yields K w' xs G Y) (er : forL gf b xs ρ w'.μ = some r) (P : SPost K E w' D r) :
    ∃ W : Nat → Nat → L2.St → Hp → Prop, (∃ m, W 0 m σ w'.H) ∧ ∀ i m σ H, W i m σ H →
      (J.stop i H ∧ D.nx σ H) ∨ (J.go i H ∧ ∃ N : L2.St → Hp → Prop, (∀ σ' H', N σ' H' → ∃ m', m' < m ∧ W (i + 1) m' σ' H') ∧ ∀ x H', J.yld i H x H' → g x σ H' fun σ2 H2 => tb { D with nx := N, ct := N, bk := D.nx } σ2 H2) := by
  refine for_it wk (fun i σ1 H => ∃ (w1 : Wd) (ρ1 : Rho), w1.H = H ∧ Ext w' w1 ∧ StOk K w1 ∧ EnvOk K w1 σ1 ρ1 ∧ forL gf b (xs.drop i) ρ1 w1.μ = some r) ⟨w', ρ, rfl, Ext.refl _, s1, ev, er⟩ ?_ ?_ ?_
  · rintro i σ1 H _ ⟨w1, ρ1, rfl, h1, h2, _⟩
    exact (yl w1 h1 h2).1
  · rintro i x σ1 H H' hlt ⟨w1, ρ1, rfl, h1, h2, h3, h4⟩ y
    obtain ⟨w2, t, rfl, hμ, e2, s2, hx, hr⟩ := (yl w1 h1 h2).2 i x H' hlt y
    have hdrop : xs.drop i = t :: xs.drop (i + 1) := by
      obtain ⟨hl, e⟩ := List.getElem?_eq_some_iff.mp hx
      rw [List.drop_eq_getElem_cons hl, e]
    rw [hdrop, ← hμ] at h4
    have h4 : mbind (gf t ρ1) (fun ρ2 => mbind (b ρ2) (turnS (forL gf b (xs.drop (i + 1))))) w2.μ = some r := h4
    unfold mbind at h4
    cases hgf : gf t ρ1 w2.μ with
    | none => rw [hgf] at h4; cases h4
    | some rg =>
      obtain ⟨ρ2, hρ⟩ := hgn _ _ _ _ hgf
      cases hρ
      rw [hgf] at h4
      refine hg w2 σ1 ρ1 t x ρ2 (h3.ext e2) s2 hr hgf _ fun σ2 hσ2 _ => ?_
      refine turn_ok hb hσ2 s2 (h1.trans e2) h4 P fun w3 σ3 ρ3 e3 s3 hσ3 h5 => ⟨w3, ρ3, rfl, h1.trans (e2.trans e3), s3, hσ3, h5⟩
  · rintro σ1 H ⟨w1, ρ1, rfl, h1, h2, h3, h4⟩
    rw [List.drop_length] at h4
    cases h4
    exact P.1 .nx ρ1 w1 rfl h1 h2 σ1 h3
/-- a world in which the dict is locked -/
abbrev Wd.lk (w : Wd) (d : Addr) (od : Obj) (ws : List (Key × V)) : Wd := ⟨upd w.F d (.frz od (.dK ws)), upd w.H d (.frz od (.dK ws)), w.A, w.μ⟩
abbrev Wd.ul (w : Wd) (d : Addr) (ws : List (Key × V)) : Wd := ⟨upd w.F d (.dK ws), upd w.H d (.dK ws), w.A, w.μ⟩
section
variable {w w1 : Wd} {d : Addr} {od : Obj} {ws : List (Key × V)}
theorem lk_way (hF : w.F d = some (.dK ws)) : Way w.F (w.lk d od ws).F d ws := ⟨⟨_, hF, .inl rfl⟩, .inr ⟨od, upd_same⟩, fun b hb => upd_ne hb⟩
theorem lk_ok (s : StOk K w) (hF : w.F d = some (.dK ws)) : StOk K (w.lk d od ws) := way_ok s (lk_way hF) (fun o q => by rw [upd_same] at q ⊢; exact q) (fun b hb => upd_ne hb) (by rw [upd_same]; simp)
theorem ul_way (F1 : w1.F d = some (.frz od (.dK ws))) : Way w1.F (w1.ul d ws).F d ws := ⟨⟨_, F1, .inr ⟨od, rfl⟩⟩, .inl upd_same, fun b hb => upd_ne hb⟩
theorem ul_ok (s : StOk K w) (hF : w.F d = some (.dK ws)) (h1 : Ext (w.lk d od ws) w1) (h2 : StOk K w1) : w1.F d = some (.frz od (.dK ws)) ∧ StOk K (w1.ul d ws) ∧ Ext w (w1.ul d ws) := by
  have hH := s.sub d _ hF
  have F1d : w1.F d = some (.frz od (.dK ws)) := h1.sub d _ upd_same
  have s2 : StOk K (w1.ul d ws) := way_ok h2 (ul_way F1d) (fun o q => by rw [upd_same] at q ⊢; exact q) (fun b hb => upd_ne hb) (by rw [upd_same]; simp)
  have hbd : ∀ b, b ≠ d → (w.lk d od ws).H b = w.H b := fun b hb => upd_ne hb
  refine ⟨F1d, s2, ?_⟩
  refine ⟨fun b o q => ?_, h1.pre, fun b q => ?_, fun b o q l => ?_, fun b k1 k2 l => ?_, fun b l k => ?_, fun b hb k => ?_⟩
  · show upd w1.F d (.dK ws) b = some o
    by_cases e : b = d
    · rw [e, hF] at q; rw [e, upd_same]; exact q
    · rw [upd_ne e]; exact h1.sub b o (by show upd w.F d _ b = some o; rw [upd_ne e]; exact q)
  · have q : upd w1.H d (.dK ws) b = none := q
    by_cases e : b = d
    · rw [e, upd_same] at q; cases q
    · rw [upd_ne e] at q
      rw [← hbd b e]
      exact h1.dom b q
  · show upd w1.H d _ b = some o
    by_cases e : b = d
    · rw [e, hH] at q; rw [e, upd_same]; exact q
    · rw [upd_ne e]; exact h1.keep b o (by rw [hbd b e]; exact q) l
  · show upd w1.F d _ b = none
    have e : b ≠ d := fun z => by rw [z, hF] at k1; cases k1
    rw [upd_ne e]
    exact h1.capt b (by show upd w.F d _ b = none; rw [upd_ne e]; exact k1) (by rw [hbd b e]; exact k2) l
  · by_cases e : b = d
    · subst e
      have : w1.live b := l
      have := (h2.liveF this).1
      rw [F1d] at this
      cases this
    · exact h1.lv b l (by rw [hbd b e]; exact k)
  · by_cases e : b = d
    · subst e
      exact h1.new b hb (by show upd w.H b _ b ≠ none; rw [upd_same]; simp)
    · exact h1.new b hb (by rw [hbd b e]; exact k)
end
theorem keys_rep {F : Hp} {kvs : List (Key × Fm.D)} {ws : List (Key × V)} (h : RepK K F kvs ws) : ws.map (·.1) = kvs.map (·.1) := by
  have q := RepK.paired.mp h
  clear h
  induction q with
  | nil => rfl
  | cons a b ih => rw [List.map_cons, List.map_cons, ih, a.1]
def tOrS (a b : TS) : TS := fun D σ H => a D σ H ∨ b D σ H
theorem ps_or {X : Cx} {st : Stmt} {a b : TS} (ha : PS X st a) (hb : PS X st b) : PS X st (tOrS a b) := ⟨fun pins s σ H D I h => by
  rcases h with h | h
  · exact ha.run pins s σ H D I h
  · exact hb.run pins s σ H D I h⟩
theorem sok_forD {look : Look} {ti : TE} {is : List Nat} {g : TG} {tb : TS} {gf : GF} {b : SF} (hi : Dpl K ti look) (hg : GOk K is g gf) (hgn : GNo gf) (hb : SOk K E tb b) :
    SOk K E (tOrS (tFor (iKeys ti) g tb) (tLock (tFor (iKeys ti) g tb))) (sForD look gf b) := fun w σ ρ ev s r er D P => by
  unfold sForD at er
  split at er
  case h_2 => cases er
  rename_i ks hks
  obtain ⟨a0, m0, rfl, er2⟩ := noex_some er
  obtain ⟨x0, hx0, hx1⟩ := Option.bind_eq_some_iff.mp hks
  obtain ⟨v0, hv0, hte⟩ := hi.at_ w σ ρ x0 ev s hx0
  have hv1 := rd_ok s hv0
  generalize rd w.μ x0 = x1 at hx1 hv1
  unfold keysD at hx1
  split at hx1
  case h_2 => cases hx1
  rename_i kvs
  cases hx1
  obtain ⟨d, ws, rfl, hF, hrep⟩ := hv1
  have hkeys : ws.map (·.1) = kvs.map (·.1) := keys_rep hrep
  have hlen : ((kvs.map (·.1)).map keyT).length = ws.length := by rw [List.length_map, ← hkeys, List.length_map]
  have yld : ∀ (od : Obj) (wb : Wd), wb.F d = some (.frz od (.dK ws)) → Yields K wb ((kvs.map (·.1)).map keyT) (fun H => H d = some (.frz od (.dK ws))) (fun i H x H' => H' = H ∧ ∃ k v, ws[i]? = some (k, v) ∧ x = kV k) := fun od wb Fbd w1 e1 s1 => ⟨s1.sub d _ (e1.sub d _ Fbd), fun j x H' hj y => by
    obtain ⟨h1, k, v, h2, h3⟩ := y
    refine ⟨w1, keyT k, h1.symm, rfl, Ext.refl _, s1, ?_, by rw [h3]; exact key_rep k⟩
    rw [List.getElem?_map, ← hkeys, List.getElem?_map, h2] <;> rfl⟩
  rcases hF with hF | ⟨od, hF⟩
  · right
    have hH := s.sub d _ hF
    refine ⟨d, .dK ws, hH, trivial, fun od => ?_⟩
    have sb := lk_ok (od := od) s hF
    have evb : EnvOk K (w.lk d od ws) σ ρ := ⟨ev.1, fun j x hx => by
      obtain ⟨v, h3, h4⟩ := ev.2 j x hx
      exact ⟨v, h3, RepT.way (lk_way hF) h4⟩⟩
    refine hte _ _ (fun b C dx gs hb => upd_ne fun z => by rw [z, hH] at hb; cases hb) ⟨d, od, rfl, .inl ⟨ws, upd_same, ?_⟩⟩
    have wk := walk_keys (d := d) (o := od) (kvs := ws)
    rw [← hlen] at wk
    refine for_core (K := K) (E := E) (w' := w.lk d od ws) (r := .ok a0 m0) hg hgn hb evb sb wk (yld od _ upd_same) er2 ⟨fun fl ρ' w1 z h1 h2 => ?_, fun _ _ _ _ z => by cases z⟩
    obtain ⟨F1d, s2, e2⟩ := ul_ok (od := od) s hF h1 h2
    have H1d := h2.sub d _ F1d
    have q := P.1 fl ρ' (w1.ul d ws) z e2 s2
    have wy1 := ul_way F1d
    have evv : ∀ σ', EnvOk K w1 σ' ρ' → EnvOk K (w1.ul d ws) σ' ρ' := fun σ' h => ⟨h.1, fun j x hx => by
      obtain ⟨v, h3, h4⟩ := h.2 j x hx
      exact ⟨v, h3, RepT.way wy1 h4⟩⟩
    cases fl with
    | nx => exact fun σ' h => ⟨H1d, q σ' (evv σ' h)⟩
    | bk => exact fun σ' h => ⟨H1d, q σ' (evv σ' h)⟩
    | ct => exact fun σ' h => ⟨H1d, q σ' (evv σ' h)⟩
    | ret x => exact fun v h => ⟨H1d, q v (RepT.way wy1 h)⟩
  · left
    have hH := s.sub d _ hF
    refine hte _ _ (fun _ _ _ _ _ => rfl) ⟨d, od, rfl, .inl ⟨ws, hH, ?_⟩⟩
    have wk := walk_keys (d := d) (o := od) (kvs := ws)
    rw [← hlen] at wk
    exact for_core (K := K) (E := E) (w' := w) (r := .ok a0 m0) hg hgn hb ev s wk (yld od w hF) er2 P
theorem st_forK (i : Nat) {x : Str} {tg : Expr} {body : List Stmt} {is : List Nat} {g : TG} {tb : TS} {gf : GF} {b : SF} {p pos : Pos} (hp : PassesOwn (model X.prog X.w) X.A X.env X.xe) (hc : X.calm = true) (hg : PGt K X is tg g gf) (hb : PBl K X E body tb b) (hi : X.N[i]? = some x := by rfl) (hv : Vis X.env.scope x := by first | exact Or.inl rfl | exact Or.inr (Or.inl rfl) | exact Or.inr (Or.inr rfl)) (hd : (x == ("__debug__" : Str)) = false := by decide) (hcd : (x == ("__classdict__" : Str)) = false := by decide) (hs : ∀ y, foldedSetIterable (.Name x p) X.env y = pure y := by intro _; rfl) :
    PSt K X E (.For tg (.Name x p) body [] pos) (tOrS (tFor (iKeys (tVar i)) g tb) (tLock (tFor (iKeys (tVar i)) g tb))) (sForK i gf b) := by
  have h := ps_for (X := X) (pos := pos) hp hc (pi_keys (X := X) (tg := tg) (pe_var (i := i) hi hv hd hcd)) hg.pe hb.pe hs
  exact ⟨ps_or h (ps_lock h), sok_forD dpl_v hg.ok hg.no hb.ok⟩
end
end Fm
set_option Elab.async false
set_option linter.all false
set_option maxRecDepth 100000
namespace Fm
open PySem L2 PySem.Spec PyProof.Rows
section
variable {X : Cx} {E : XK} {K : PySem.W.Frag} {k : Nat}
/-! ### a tuple of texts of the module -/
structure KTs (K : PySem.W.Frag) (mg : Str → Option Value) (x : Str) (ys : List Str) : Prop where
  ex : ∃ a, mg x = some (.ref a) ∧ ∀ H, SqT K H a (ys.map V.str)
def txtsB : List Value → List Str → Bool
  | [], [] => true
  | .str s _ :: r, y :: l => decide (s = y) && txtsB r l
  | _, _ => false
theorem txtsB_ok : ∀ {us : List Value} {ys : List Str}, txtsB us ys = true → Vals (ys.map V.str) us
  | [], [], _ => .nil
  | u :: r, [], h => by cases u <;> cases h
  | [], y :: l, h => by cases h
  | u :: r, y :: l, h => by
    cases u with
    | str s t =>
      have h : (decide (s = y) && txtsB r l) = true := h
      rw [Bool.and_eq_true, decide_eq_true_eq] at h
      exact .cons ⟨t, by rw [h.1]⟩ (txtsB_ok h.2)
    | _ => cases h
theorem kts_mk {h : Heap} {mg : Str → Option Value} {x : Str} {d : Addr} {its : Array Value} {n : Nat} {ys : List Str} (X : K.In h) (G : h.Ns mainGlobals mg) (a : PySem.W.nsIn K mainGlobals x = some (some (.ref d))) (l : K.lookup d = some ⟨.type "tuple", none, .seq its n, #[]⟩) (hv : txtsB its.toList ys = true) (hl : ys.length ≤ 1000) : KTs K mg x ys := by
  have q := txtsB_ok hv
  refine ⟨d, PySem.W.mg_of X G a, fun H => .inr ⟨_, its, n, l, rfl, rfl, ?_, q⟩⟩
  have h1 := pd_len q
  rw [List.length_map] at h1
  have h2 : its.toList.length = its.size := Array.length_toList
  rw [sizeLine_eq]
  omega
def eKT (ys : List Str) (fi : EF) : EF := fun ρ => mbind (fi ρ) fun y => mof (match y with
  | .d (.int i) => (atI ys i).map fun v => .d (.str v)
  | _ => none)
theorem atI_map {α β : Type} {f : α → β} {xs : List α} {i : Int} {a : α} (h : atI xs i = some a) : atI (xs.map f) i = some (f a) := by
  unfold atI at h ⊢
  obtain ⟨j, q1, q2⟩ := Option.bind_eq_some_iff.mp h
  rw [List.length_map, q1]
  show (xs.map f)[j]? = _
  rw [List.getElem?_map, q2] <;> rfl
theorem pd_kt {x : Str} {ys : List Str} {i : Expr} {ti : TE} {fi : EF} {p pos : Pos} (D : KTs K X.mg x ys) (hi : PD K X E i ti fi) (hg : Gl X x := by rfl) (hd : (x == ("__debug__" : Str)) = false := by decide) (hK : X.K = K := by rfl) (hs : PlainIx i := by exact fun _ _ => rfl) :
    PD K X E (.Subscript (.Name x p) i pos) (tOp (L2.rIx K) (tC (.ref (kdA X.mg x))) ti) (eKT ys fi) := by
  subst hK
  obtain ⟨a, ha, hall⟩ := D.ex
  have ea : kdA X.mg x = a := by unfold kdA; rw [ha]
  rw [ea]
  refine ⟨pe_ix ix_seq (pe_glob (v := .ref a) hg ha rfl hd) hi.pe hs, fun w σ ρ ev => ?_⟩
  show At X.K E w (fun Q => ti σ w.H fun y H2 => L2.rIx X.K (V.ref a) y H2 Q) _ _
  refine At.bind rv_m (hi.ok w σ ρ ev) fun y v w1 e1 s1 hy => ?_
  have q := At.pure (K := X.K) (E := E) (w := w1) (t := fun Q => L2.rIx X.K (V.ref a) v w1.H Q) (o := (match y with
    | .d (.int i) => (atI ys i).map fun v => T.d (.str v)
    | _ => none)) (R := RV X.K) fun s b hb => by
    split at hb
    · rename_i z
      obtain ⟨u, hu, rfl⟩ := Option.map_eq_some_iff.mp hb
      have hv : v = .int z := hy
      exact ⟨.str u, rfl, fun Q q => .inr (.inl ⟨a, _, z, .str u, rfl, hv, hall _, atI_map hu, q⟩)⟩
    · cases hb
  exact q
/-! ### a, b in a list of lists -/
def lstDs : T → Option (List Fm.D)
  | .d (.lst ds) => some ds
  | _ => none
def gLs (is : List Nat) : GF := fun x ρ μ => mof ((lstDs (rd μ x)).bind fun xs => gNs is xs ρ) μ
theorem tg_l {es : List Expr} {k : Nat} {t : TGs} {is : List Nat} {pos : Pos} (h : PGn K X es t is) (hc : X.calm = true := by rfl) (hK : X.K = K := by rfl) (hn : (assignEach es X.env).length = is.length := by rfl) (hst : (assignEach es X.env).findIdx? (·.1) = none := by rfl) : PGt K X is (.Tuple es k pos) (gLst K is.length t) (gLs is) := by
  subst hK
  refine ⟨pg_lst hc h.pe hn hst, fun w σ ρ x v ρ' ev s hx e Q q => ?_, fun x ρ μ r e => ?_⟩
  · have e : mof ((lstDs (rd w.μ x)).bind fun xs => gNs is xs ρ) w.μ = some (.ok ρ' w.μ) := e
    unfold mof at e
    cases hb : (lstDs (rd w.μ x)).bind fun xs => gNs is xs ρ with
    | none => rw [hb] at e; cases e
    | some ρ2 =>
      rw [hb] at e
      cases e
      obtain ⟨xs, h1, h2⟩ := Option.bind_eq_some_iff.mp hb
      have hx := rd_ok s hx
      generalize rd w.μ x = y at h1 hx
      unfold lstDs at h1
      split at h1
      · cases h1
        obtain ⟨a, vs, h3, h4, h5⟩ := hx
        have h6 := d_paired h5
        exact ⟨a, vs, h3, .of (s.sub _ _ h4), by rw [← pd_len h6, List.length_map, gNs_len h2], h.ok w σ ρ xs vs ρ' ev h6 h2 Q q⟩
      · cases h1
  · have e : mof ((lstDs (rd μ x)).bind fun xs => gNs is xs ρ) μ = some r := e
    unfold mof at e
    split at e
    · cases e
    · cases e; exact ⟨_, rfl⟩
end
end Fm
set_option Elab.async false
set_option linter.all false
set_option maxRecDepth 100000
namespace Fm
open PySem L2 PySem.Spec PyProof.Rows
/-! ### an instance beside itself -/
section
variable {M : Model} {prog : Program} {w : World} {A : Around} {E : Value → Shared → Prop} {s : Shared} {K : PySem.W.Frag} {x C : Addr} {ox : Obj} {od : Option Obj}
theorem call_objSame {Q : Value → Shared → Prop} (X : K.In s.heap) (I : PySem.W.InstAt s.heap x ox C od) (hm : PySem.W.mroIn K C (.type "object") = some true) (hq : Q (.bool true) s) :
    wpAny (model prog w) A (call (.builtin "object.__eq__") [.ref x, .ref x]) Q E s :=
  wpAny_call (codeAny_call_builtin F.cmp_object.eq.plain F.cmpEntry_eq (PySem.W.check_slot F.cmpKind_eq F.cmpSplit_eq (I.type.andThen (PySem.W.looks_mroIn X hm)) (F.cmpArgs_eq _ _) (objEq_entry_same hq)))
theorem rc_same (hu : A.units < cLine) (X : K.In s.heap) (I : PySem.W.InstAt s.heap x ox C od) (hm : PySem.W.mroIn K C (.type "object") = some true) (hs : PySem.W.findIn K (.ref C) "__eq__" = some (some (.builtin "object.__eq__"))) {Q : Value → Shared → Prop} (h : Q (.bool true) s) :
    wpAny (model prog w) A (richCompare .Eq (.ref x) (.ref x)) Q E s := by
  have one : wpAny (model prog w) A (tryCompare (.ref x) "__eq__" (.ref x)) (fun r s' => r = some (.bool true) ∧ s' = s) E s := by
    unfold tryCompare
    exact wpAny_bind (HN.ifBound_objEq X I hs (call_objSame X I hm (wpAny_pure ⟨rfl, rfl⟩)))
  simp only [richCompare, cmpInfo_Eq, oneThing_ref]
  refine wpAny_holding (wpAny_bind (wpAny_cRoomFor hu ?_))
  refine wpAny_bind (I.type.here ?_)
  refine wpAny_bind (I.type.here ?_)
  simp only [bne_self_eq_false, Bool.false_eq_true, if_false]
  refine wpAny_bind (wpAny_pure ?_)
  rw [if_neg (by decide)]
  refine wpAny_bind (m := tryCompare (.ref x) _ (.ref x)) (wpAny_mono one (fun r s1 z => ?_) fun _ _ e => e)
  obtain ⟨z1, z2⟩ := z
  subst z1
  subst z2
  exact wpAny_pure h
end
section
variable {X : Cx} {E : XK} {K : PySem.W.Frag} {k : Nat}
/-- what a class without an __eq__ of its own has -/
structure EqD (K : PySem.W.Frag) (c : Str) : Prop where
  hc : clsAt K c (clsC K c)
  hm : PySem.W.mroIn K (clsC K c) (.type "object") = some true
  hs : PySem.W.findIn K (.ref (clsC K c)) "__eq__" = some (some (.builtin "object.__eq__"))
theorem eqd_mk {c : Str} {C : Addr} (hC : PySem.W.nsIn K mainGlobals c = some (some (.ref C))) (hm : PySem.W.mroIn K C (.type "object") = some true) (hs : PySem.W.findIn K (.ref C) "__eq__" = some (some (.builtin "object.__eq__"))) : EqD K c := by
  have e := clsC_of (K := K) (c := c) hC
  exact ⟨by rw [e]; exact hC, by rw [e]; exact hm, by rw [e]; exact hs⟩
def rSame (K : PySem.W.Frag) (C : Addr) : R2 := fun x y H Q => ∃ a dx fs, x = .ref a ∧ y = .ref a ∧ H a = some (.ins C dx fs) ∧ Q (.bl true) H
theorem op_same {C : Addr} (hu : X.A.units < cLine) (hm : PySem.W.mroIn X.K C (.type "object") = some true) (hs : PySem.W.findIn X.K (.ref C) "__eq__" = some (some (.builtin "object.__eq__"))) : OpR X (compareOp .Eq) (rSame X.K C) := by
  intro pins s σ H x y v u Q I rx ry h
  obtain ⟨a, dx, fs, rfl, rfl, ha, q⟩ := h
  cases rx
  cases ry
  obtain ⟨mA, O, _⟩ := ins_get I.hok ha
  obtain ⟨od, J, _⟩ := O.look
  exact rc_same hu I.kIn J hm hs ⟨.bl true, H, I, rfl, q⟩
def gSame (c : Str) : G2 := fun μ x y => match x, y with
  | .p n, .p m => match μ[n]? with
    | some (.obj c' _) => if n = m ∧ c' = c then some (.d (.bl true)) else none
    | _ => none
  | _, _ => none
theorem od_same {c : Str} (hu : X.A.units < cLine) (D : EqD K c) (hK : X.K = K := by rfl) : OpD K X (compareOp .Eq) (rSame K (clsC K c)) (gSame c) := by
  subst hK
  refine ⟨op_same hu D.hm D.hs, fun w x y vx vy z s hx hy e => ?_⟩
  unfold gSame at e
  split at e
  · rename_i n m
    split at e
    · rename_i c' fs hn
      split at e
      · rename_i h
        obtain ⟨rfl, rfl⟩ := h
        cases e
        obtain ⟨a, dx, gs, C, h1, h2, h3, h4, h5, h6⟩ := objC_ok s hx hn
        obtain rfl := h3.uniq D.hc
        obtain ⟨b, k1, k2⟩ := hy
        rw [h2] at k1
        cases k1
        exact ⟨_, rfl, fun Q q => ⟨a, dx, gs, h1, k2, h5, q⟩⟩
      · cases e
    · cases e
  · cases e
end
end Fm
set_option Elab.async false
set_option linter.all false
set_option maxRecDepth 100000
namespace Fm
open PySem L2 PySem.Spec PyProof.Rows
section
variable {X : Cx} {E : XK} {K : PySem.W.Frag} {i : Nat}
/-! ### expressions of a suite: and, or, not, isinstance, subscripts, int(..) -/
theorem at_bE {t : VK → Prop} {f : M T} {w : Wd} (h : At K E w t f (RV K)) {R : RT T V} {u : Bool → Hp → VK → Prop} {g : Bool → M T} (hm : ∀ w w1 w2 a b, Ext w w1 → R w1 w2 a b → R w w2 a b)
    (h2 : ∀ b w1, Ext w w1 → StOk K w1 → At K E w1 (u b w1.H) (g b) R) : At K E w (fun Q => t fun x H1 => ∃ c, x = .bl c ∧ u c H1 Q) (mbind (mbind f bOf) g) R := by
  have q1 : At K E w (fun (Q : Bool → Hp → Prop) => t fun x H1 => ∃ k, x = .bl k ∧ Q k H1) (mbind f bOf) RB := At.bind (u := fun x H Q => ∃ k, x = .bl k ∧ Q k H) rb_m h fun x v w1 _ _ hx => at_bOf hx
  have q := At.bind (u := u) (g := g) (R2 := R) hm q1 fun b c w1 e1 s1 hb => by
    cases hb
    exact h2 b w1 e1 s1
  exact q
section
variable {a b : Expr} {rest : List Expr} {ta tb : Addr → Value → Option Addr → TE} {fa fb : Exn → EF} {pos : Pos}
theorem spe1 {op} (h : SPD K X i a ta fa) : SPD K X i (.BoolOp op [a] pos) ta fa := ⟨fun a' oe cls d pn hz hf => pe_one (h.pe a' oe cls d pn hz hf), h.ok⟩
theorem spd_or (ha : SPD K X i a ta fa) (hb : SPD K X i (.BoolOp .Or (b :: rest) pos) tb fb) : SPD K X i (.BoolOp .Or (a :: b :: rest) pos) (fun y c d => tOrV (ta y c d) (tb y c d)) (fun x => eOr (fa x) (fb x)) := by
  refine ⟨fun a' oe cls d pn hz hf => L2.pe_or (ha.pe a' oe cls d pn hz hf) (hb.pe a' oe cls d pn hz hf), fun y c d x w σ ρ hx hσ ev => ?_⟩
  refine at_bE (R := RV K) (u := fun k H1 Q => if k = true then Q (.bl true) H1 else tb y c d σ H1 Q) (ha.ok y c d x w σ ρ hx hσ ev) rv_m fun k w1 e1 s1 => ?_
  cases k with
  | true => exact At.ret (R := RV K) rfl
  | false => exact hb.ok y c d x w1 σ ρ (hx.ext e1) hσ (ev.ext e1)
theorem spd_and (ha : SPD K X i a ta fa) (hb : SPD K X i (.BoolOp .And (b :: rest) pos) tb fb) : SPD K X i (.BoolOp .And (a :: b :: rest) pos) (fun y c d => tAndV (ta y c d) (tb y c d)) (fun x => eAnd (fa x) (fb x)) := by
  refine ⟨fun a' oe cls d pn hz hf => L2.pe_and (ha.pe a' oe cls d pn hz hf) (hb.pe a' oe cls d pn hz hf), fun y c d x w σ ρ hx hσ ev => ?_⟩
  refine at_bE (R := RV K) (u := fun k H1 Q => if k = true then tb y c d σ H1 Q else Q (.bl false) H1) (ha.ok y c d x w σ ρ hx hσ ev) rv_m fun k w1 e1 s1 => ?_
  cases k with
  | true => exact hb.ok y c d x w1 σ ρ (hx.ext e1) hσ (ev.ext e1)
  | false => exact At.ret (R := RV K) rfl
theorem spd_not (ha : SPD K X i a ta fa) : SPD K X i (.UnaryOp .Not a pos) (fun y c d => tNotV (ta y c d)) (fun x => eNot (fa x)) := by
  refine ⟨fun a' oe cls d pn hz hf => L2.pe_not (ha.pe a' oe cls d pn hz hf), fun y c d x w σ ρ hx hσ ev => ?_⟩
  exact at_bE (R := RV K) (u := fun k H1 Q => Q (.bl (!k)) H1) (ha.ok y c d x w σ ρ hx hσ ev) rv_m fun k w1 e1 s1 => At.ret (a := T.d (.bl (!k))) (b := V.bl (!k)) (R := RV K) rfl
theorem spd_ix (hu : ∀ (y : Addr) (oe : Obj) (pn : List (Addr × Obj)), (X.suite y ((y, oe) :: pn)).A.units + 1 < cLine) (ha : SPD K X i a ta fa) (hb : SPD K X i b tb fb) (hK : X.K = K := by rfl) (hs : PlainIx b := by exact fun _ _ => rfl) :
    SPD K X i (.Subscript a b pos) (fun y c d => tOp (fun x y H Q => rIx K x y H Q ∨ rIxD x y H Q) (ta y c d) (tb y c d)) (fun x => eOp gIx (fa x) (fb x)) := by
  subst hK
  refine ⟨fun a' oe cls d pn hz hf => pe_ix (ix_seq.or (ix_dict (hu a' oe pn))) (ha.pe a' oe cls d pn hz hf) (hb.pe a' oe cls d pn hz hf) hs, fun y c d x w σ ρ hx hσ ev => ?_⟩
  show At X.K EX0 w (fun Q => ta y c d σ w.H fun x H1 => tb y c d σ H1 fun y H2 => (rIx X.K x y H2 Q ∨ rIxD x y H2 Q)) _ _
  exact At.bind rv_m (ha.ok y c d x w σ ρ hx hσ ev) fun u vu w1 e1 s1 hu => At.bind rv_m (hb.ok y c d x w1 σ ρ (hx.ext e1) hσ (ev.ext e1)) fun z vz w2 e2 s2 hz => at_stp opv_ix (e2.t hu) hz
theorem spd_B {id : String} {r : RCall} {g : Mu → List T → Option T} {nm : Str} {e : Expr} {es : List Expr} {t : Addr → Value → Option Addr → TA} {f : Exn → AF} {p : Pos} (bi : ∀ (y : Addr) (oe : Obj) (pn : List (Addr × Obj)), BI K (X.suite y ((y, oe) :: pn)) (.type id) r g) (hm : X.mg nm = none) (hv : bootBuiltins nm = some (.type id)) (ha : SPL K X i (e :: es) t f) (hg : Gl X nm := by rfl) (hn : nm ≠ "__name__" := by decide) (hdb : (nm == ("__debug__" : Str)) = false := by decide)
    (he : starEach (e :: es) X.env = (false, eval e X.env) :: starEach es X.env := by rfl) (hpl : (backTo pos (starEach es X.env)).any (·.1) = false := by rfl) : SPD K X i (.Call (.Name nm p) (e :: es) [] pos) (fun y c d => tCB r (t y c d)) (fun x => eB g (f x)) := by
  refine ⟨fun a' oe cls d pn hz hf => pe_callTy (X := X.suite a' ((a', oe) :: pn)) (bi a' oe pn).call hg hm hv (ha.pe a' oe cls d pn hz hf) hn hdb he hpl, fun y c d x w σ ρ hx hσ ev => ?_⟩
  show At K EX0 w (fun Q => t y c d σ w.H fun vs H1 => r vs H1 Q) _ _
  refine At.bind rv_m (ha.ok y c d x w σ ρ hx hσ ev) fun xs vs w1 e1 s1 hx => ?_
  have q := At.pure (K := K) (E := EX0) (w := w1) (t := r vs w1.H) (o := g w1.μ (xs.map (rd w1.μ))) (R := RV K) fun s a ha => (bi y { cls := .none, data := .fields #[] } []).ok w1 _ vs a s (rds_ok s hx) ha
  exact q
end
def eIsE (kt : Str → Option Bool) : Exn → EF := fun x _ => mof ((kt x.cls).map fun b => T.d (.bl b))
theorem spd_isi {c n : Str} {p p1 p2 pos : Pos} {kt : Str → Option Bool} (hk : KtK K c kt) (mgC : X.mg c = some (.ref (clsC K c))) (hm : X.mg "isinstance" = none) (hi : X.N[i]? = some n := by rfl) (hv : Vis X.env.scope n := by first | exact .inl rfl | exact .inr rfl) (hg : Gl X "isinstance" := by rfl) (hgc : Gl X c := by rfl) (hK : X.K = K := by rfl)
    (hd1 : (n == ("__debug__" : Str)) = false := by decide) (hcd : (n == ("__classdict__" : Str)) = false := by decide) (hd : (c == ("__debug__" : Str)) = false := by decide)
    (he : starEach (.Name n p1 :: [.Name c p2]) X.env = (false, eval (.Name n p1) X.env) :: starEach [.Name c p2] X.env := by rfl) (hpl : (backTo pos (starEach [.Name c p2] X.env)).any (·.1) = false := by rfl) :
    SPD K X i (.Call (.Name "isinstance" p) [.Name n p1, .Name c p2] [] pos) (fun a cls d => tIsE K i c a cls d) (eIsE kt) := by
  subst hK
  refine ⟨fun a oe cls d pn hz hf => pe_callB (X := X.suite a ((a, oe) :: pn)) (call_isE' hz hf) hg hm (by decide +kernel) (pa_cons (pe_var hi hv hd1 hcd) (pa_cons (pe_glob (v := .ref (clsC X.K c)) hgc mgC rfl hd) pa_nil) he) (by decide) (by decide) he hpl, fun a cls d x w σ ρ hx hσ ev => ?_⟩
  refine At.pure fun s b hb => ?_
  obtain ⟨k, hkt, rfl⟩ := Option.map_eq_some_iff.mp hb
  obtain ⟨⟨C, hC, hcls⟩, hdd⟩ := id hx
  have hxd : ∀ dd, d = some dd → ∃ fs, w.H dd = some (.xd fs) := fun dd z => by
    cases hf : x.fs with
    | none =>
      rw [hf] at hdd
      have hdd : d = none := hdd
      rw [hdd] at z
      cases z
    | some fs =>
      rw [hf] at hdd
      obtain ⟨a', gs, e1, e2, _⟩ := hdd
      rw [e1] at z
      cases z
      exact ⟨gs, s.sub _ _ e2⟩
  obtain ⟨k1, k2⟩ := hk _ _ hkt C hC
  exact ⟨.bl k, rfl, fun Q q => ⟨.ref a, hσ, C, hcls, k1, hxd, .ref (clsC X.K c), .ref (clsC X.K c), k, rfl, fun u hu => hu, k2, q⟩⟩
/-- x = .., then the rest of the suite -/
theorem sb_asg (j : Nat) {x : Str} {p pos : Pos} {e : Expr} {rest : List Stmt} {te : Addr → Value → Option Addr → TE} {ts : Addr → Value → Option Addr → TS} {f : Exn → EF} {h : Exn → SF} (he : SPD K X i e te f) (hr : SBl K X i rest ts h) (hij : j ≠ i) (hN : X.N.Nodup) (hj : X.N[j]? = some x := by rfl) (hx : Loc X.env.scope x := by first | exact .inl rfl | exact .inr rfl) (hf : X.fn x = true ∨ X.env.scope.names.lookup x = some .local := by first | exact .inl rfl | exact .inr rfl) (hs : swapsWithSole [.Name x p] e pos.line X.env = pure false := by rfl) (hw : swappedStores [.Name x p] e X.env = pure none := by rfl) (h1 : (assignEach [.Name x p] X.env).map (·.2) = [assign (.Name x p) X.env] := by rfl) :
    SBl K X i (.Assign [.Name x p] e pos :: rest) (fun a cls d => tSeq (tAsg (te a cls d) (gName j)) (ts a cls d)) (fun y => sSeq (sAsg (f y) (gN j)) (h y)) := by
  refine ⟨fun a oe cls d pn hz hfl => pss_cons (ps_asg (X := X.suite a ((a, oe) :: pn)) (he.pe a oe cls d pn hz hfl) (pg_name (i := j) hN hj hx hf) hs hw h1) (hr.pe a oe cls d pn hz hfl), fun a cls d y w σ ρ hy hσ ev s r er D P => ?_⟩
  show te a cls d σ w.H fun v H1 => gName j v σ H1 fun σ' H' => ts a cls d D σ' H'
  have er2 : mbind (f y ρ) (fun z μ => h y (ρ.set j (some z)) μ) w.μ = some r := by
    have er : mbind (sAsg (f y) (gN j) ρ) (thenS (h y)) w.μ = some r := er
    unfold sAsg at er
    cases hfy : f y ρ w.μ with
    | none => simp [hfy] at er
    | some q =>
      cases q with
      | ex z μ' => simpa [mbind, hfy] using er
      | ok z μ' => simpa [mbind, hfy, thenS] using er
  refine At.use (he.ok a cls d y w σ ρ hy hσ ev) s er2 _ (fun z w1 v _ e1 x1 s1 hz => ?_) P.2
  have hij' : (σ.set j (some v))[i]? = some (some (.ref a)) := by rw [List.getElem?_set_ne hij]; exact hσ
  exact hr.ok a cls d y w1 _ _ (hy.ext x1) hij' (env_set (ev.ext x1) j hz) s1 r e1 D (P.from x1)
/-- a comparison within a try, its left side a call -/
theorem pds_cmp {a b : Expr} {op : CmpOp} {ta : WX → TE} {tb : TE} {fa fb : EF} {r : R2} {g : G2} {pos : Pos} (o : ∀ (pn : List (Addr × Obj)) (xe : Value → Shared → Prop), OpD K (X.tr pn xe) (compareOp op) r g) (ha : PDS K X a ta fa) (hb : ∀ (pn : List (Addr × Obj)) (xe : Value → Shared → Prop) (E' : XK), PD K (X.tr pn xe) E' b tb fb) (hm : behindInMarks op b = false := by first | exact nomark _ | rfl) :
    PDS K X (.Compare a [op] [b] pos) (fun W => tOp r (ta W) tb) (eOp g fa fb) := by
  refine ⟨fun W pn xe tk => pe_cmpR (X := X.tr pn xe) (o pn xe).op (ha.pe W pn xe tk) (hb pn xe EX0).pe hm, fun W w σ ρ ev => ?_⟩
  show At K _ w (fun Q => ta W σ w.H fun x H1 => tb σ H1 fun y H2 => r x y H2 Q) _ _
  exact At.bind rv_m (ha.ok W w σ ρ ev) fun x vx w1 e1 s1 hx => At.bind rv_m ((hb [] (fun _ _ => True) _).ok w1 σ ρ (ev.ext e1)) fun y vy w2 e2 s2 hy => at_stp (o [] fun _ _ => True).ov (e2.t hx) hy
end
end Fm
set_option Elab.async false
set_option linter.all false
set_option maxRecDepth 100000
namespace Fm
open PySem L2 PySem.Spec PyProof.Rows
section
variable {X : Cx} {E : XK} {K : PySem.W.Frag} {i : Nat}
/-! ### repr of a scalar -/
def rRepr : RCall := fun xs H Q => (xs = [.non] ∧ Q (.str "None") H) ∨ (∃ b : Bool, xs = [.bl b] ∧ Q (.str (if b then "True" else "False")) H) ∨ ∃ i : Int, xs = [.int i] ∧ i.natAbs.log2 < 1920 ∧ Q (.str (toString i)) H
theorem call_repr1 : CallR X (.builtin "repr") rRepr := by
  intro pins s σ H xs us Q I r h
  rcases h with ⟨rfl, q⟩ | ⟨b, rfl, q⟩ | ⟨i, rfl, hz, q⟩
  · obtain ⟨u, rfl, ru⟩ := vals1 r
    cases ru
    exact PySem.P.repr_of_none ⟨.str _, H, I.tok _, ⟨_, rfl⟩, q⟩
  · obtain ⟨u, rfl, ru⟩ := vals1 r
    cases ru
    refine PySem.P.repr_of_bool ⟨.str _, H, I.tok _, ⟨_, rfl⟩, ?_⟩
    cases b <;> exact q
  · obtain ⟨u, rfl, t, rfl⟩ := vals1 r
    exact PySem.P.repr_of_int hz ⟨.str _, H, I.tok _, ⟨_, rfl⟩, q⟩
def gRepr (_ : Mu) (xs : List T) : Option T := match xs with
  | [.d .non] => some (.d (.str "None"))
  | [.d (.bl b)] => some (.d (.str (if b then "True" else "False")))
  | [.d (.int i)] => if i.natAbs.log2 < 1920 then some (.d (.str (toString i))) else none
  | _ => none
theorem bi_repr : BI K X (.builtin "repr") rRepr gRepr := ⟨call_repr1, fun w xs vs z s hx e => by
  unfold gRepr at e
  split at e
  · obtain ⟨v, rfl, hv⟩ := one_of hx
    cases e
    exact ⟨_, rfl, fun Q q => .inl ⟨by rw [show v = .non from hv], q⟩⟩
  · rename_i b
    obtain ⟨v, rfl, hv⟩ := one_of hx
    cases e
    exact ⟨_, rfl, fun Q q => .inr (.inl ⟨b, by rw [show v = .bl b from hv], q⟩)⟩
  · rename_i j
    obtain ⟨v, rfl, hv⟩ := one_of hx
    split at e
    · rename_i hz
      cases e
      exact ⟨_, rfl, fun Q q => .inr (.inr ⟨j, by rw [show v = .int j from hv], hz, q⟩)⟩
    · cases e
  · cases e⟩
end
end Fm
set_option Elab.async false
set_option linter.all false
set_option maxRecDepth 100000
namespace Fm
open PySem L2 PySem.Spec PyProof.Rows
/-! ### defs that want to know that no repr is under way around them -/
structure FnOkG (P : Program) (w : World) (K : PySem.W.Frag) (mg : Str → Option Value) (base : Heap) (CX : CXT) (k : Nat) (f : Addr) (fd : FuncData) (ps : List Str) (sp : Sp) : Prop where
  len : ∀ vs H Q E, sp vs H Q E → vs.length = ps.length
  run : ∀ (A : Around) (outer : List Env) (s : Shared) (H : Hp) (us : List Value) (vs : List V) (Q : VK) (E : XK), A.guards = some [] → Room k A → Env0 P w K mg base A outer s H → BindsTo s fd ⟨us, []⟩ (ps.zip us) → Vals vs us → sp vs H Q E →
    codeAny (model P w) A (.call (.ref f) ⟨us, []⟩) (CR CX outer P w H s Q E) s
section
variable {P : Program} {w : World} {K : PySem.W.Frag} {mg : Str → Option Value} {base : Heap}
theorem FnOkG.mono {CX : CXT} {j k : Nat} {f : Addr} {fd : FuncData} {ps : List Str} {sp : Sp} (F : FnOkG P w K mg base CX j f fd ps sp) (l : j ≤ k) : FnOkG P w K mg base CX k f fd ps sp :=
  ⟨F.len, fun A o s H us vs Q E g r => F.run A o s H us vs Q E g (r.mono l)⟩
/-- a place whose surroundings hold no repr -/
structure BdG (X : Cx) (E : XK) (k : Nat) : Prop extends BdS X E k where
  gd : X.A.guards = some []
structure FnG (P : Program) (w : World) (K : PySem.W.Frag) (mg : Str → Option Value) (base : Heap) (k : Nat) (x : Str) (n : Nat) (fn : FN) : Prop where
  ex : ∃ (f : Addr) (fd : FuncData) (ps : List Str), FnOkG P w K mg base (L2.CX P w) k f fd ps (spM K n fn) ∧ mg x = some (.ref f) ∧ PySem.W.keepIn K (.ref f) = true ∧ Binds K fd ps [] ∧ ps.length = n
theorem FnG.mono {j k : Nat} {x : Str} {n : Nat} {fn : FN} (h : FnG P w K mg base j x n fn) (l : j ≤ k) : FnG P w K mg base k x n fn :=
  let ⟨f, fd, ps, a, b⟩ := h.ex
  ⟨f, fd, ps, a.mono l, b⟩
/-- one run of a def, at one place -/
theorem one_run {CX : CXT} {x qual : Str} {st : Stmt} {f : Addr} {fd : FuncData} {N ps : List Str} {k : Nat} (F : L2.Fun K x qual st f fd) (S : FnScope N ps (defScope st)) {A : Around} {outer : List Env} {s : Shared} {H : Hp} {us : List Value} {vs : List V} {Q : VK} {E : XK}
    (hl : vs.length = ps.length) (hr : Room (k + 1) A) (e0 : Env0 P w K mg base A outer s H) (hb : BindsTo s fd ⟨us, []⟩ (ps.zip us)) (rv : Vals vs us)
    (body : ∀ cdv : Value, ∃ t, PSs (cxOf CX P w K mg base N qual (defScope st) f cdv A outer s H E) (defBody st) t ∧ t { nx := fun _ H' => Q .non H', rt := Q } (start N vs) H) :
    codeAny (model P w) A (.call (.ref f) ⟨us, []⟩) (CR CX outer P w H s Q E) s := by
  obtain ⟨oc, od, kV, doc, pm, an, cdv, ct, osl, rfl, lk, hcd⟩ := F.ex
  obtain ⟨t, ht, hq⟩ := body cdv
  have inK : K.In s.heap := e0.mod.kin.keeps fun b o e => (e0.bs b o e).1
  have pk : ∀ y ∈ ps.zip us, (defScope st).names.lookup y.1 = some .local ∨ ((defScope st).names.lookup y.1 = some .cell ∧ ((cellsFrom (s.heap.objs.size + 1) (defScope st).names []).lookup y.1).isSome = true) := by
    rintro ⟨n, v⟩ hy
    exact (S.par n (List.of_mem_zip hy).1).imp_right fun q => ⟨q, PySem.W.cellsFrom_some _ _ _ (.inl q)⟩
  refine codeAny_call_function hr.depth (inK _ _ lk) rfl S.co S.gen rfl (PySem.W.codeRec_of inK hcd) (hb _ _ _ _ (wpAny_newFunctionEnv_cells S.kind pk fun env he s1 y => ?_))
  subst he
  have I : Inv (cxOf CX P w K mg base N qual (defScope st) f cdv A outer s H E) [] (start N vs) H s1 := inv_start S hr.hd e0 hl rv y
  refine ⟨(e0.mod.nolimit.keeps fun b o e => (e0.bs b o e).1).keeps y.toInCall.keep, codeAny_func (wpAny_mono (ht.run [] s1 (start N vs) H _ I hq) (fun fl s' hs => ?_) fun _ _ hs => hs)⟩
  match fl, hs with
  | .ret u, ⟨v, σ', H', J, rv', q⟩ => exact ⟨v, H', J.os, J.bare, J.base, J.hok, rv', q⟩
  | .next, ⟨σ', H', J, q⟩ => exact ⟨V.non, H', J.os, J.bare, J.base, J.hok, rfl, q⟩
  | .brk, ⟨_, _, _, q⟩ => exact q.elim
  | .cont, ⟨_, _, _, q⟩ => exact q.elim
/-- a def whose body may ask that -/
theorem okFG {x qual : Str} {st : Stmt} {f : Addr} {fd : FuncData} {N ps : List Str} {k : Nat} {body : SF} (F : L2.Fun K x qual st f fd) (S : FnScope N ps (defScope st))
    (hbody : ∀ (cdv : Value) (A : Around) (outer : List Env) (s : Shared) (H : Hp) (E : XK), BdG (cxOf (L2.CX P w) P w K mg base N qual (defScope st) f cdv A outer s H E) E k → ∃ t, PBl K (cxOf (L2.CX P w) P w K mg base N qual (defScope st) f cdv A outer s H E) E (defBody st) t body) :
    FnOkG P w K mg base (L2.CX P w) (k + 1) f fd ps (spM K ps.length (fnB N.length body)) := by
  refine ⟨fun vs H Q E h => h.1, fun A outer s H us vs Q E hg hr e0 hb rv hsp => one_run F S hsp.1 hr e0 hb rv fun cdv => ?_⟩
  obtain ⟨hl, w0, xs, r, rfl, s0, hx, hf, h1, h2⟩ := hsp
  obtain ⟨t, ht⟩ := hbody cdv A outer s w0.H E ⟨⟨⟨hr.deeper _, passes_call (takes_of rfl rfl rfl rfl) fun _ _ _ _ h => h, rfl⟩, takes_of rfl rfl rfl rfl, passes_of rfl⟩, hg⟩
  refine ⟨t, ht.pe, ?_⟩
  unfold fnB at hf
  have ev := start_ok (N := N) hx
  split at hf
  · rename_i ρ' μ' hq
    cases hf
    refine ht.ok w0 _ _ ev s0 _ hq _ ⟨fun fl ρ2 w' z e1 s1 => ?_, fun _ _ _ _ z => by cases z⟩
    cases z
    intro σ' _
    obtain ⟨w2, q1, q2, q3, q4, q5, q6⟩ := fin_ok (x := .d .non) s0 e1 s1
    show Q .non w'.H
    rw [← q1]
    exact h1 (.d .non) w2 .non (by rw [q3]) q4 q5 rfl
  · rename_i y ρ' μ' hq
    cases hf
    refine ht.ok w0 _ _ ev s0 _ hq _ ⟨fun fl ρ2 w' z e1 s1 => ?_, fun _ _ _ _ z => by cases z⟩
    cases z
    intro v hv
    obtain ⟨w2, q1, q2, q3, q4, q5, q6⟩ := fin_ok (x := y) s0 e1 s1
    show Q v w'.H
    rw [← q1]
    exact h1 y w2 v (by rw [q3]) q4 q5 (q6 v hv)
  · rename_i y μ' hq
    cases hf
    refine ht.ok w0 _ _ ev s0 _ hq _ ⟨(fun fl ρ2 w' z => by cases z), fun y' w' cls d z e1 s1 hex => ?_⟩
    cases z
    obtain ⟨w2, q1, q2, q3, q4, q5, q6⟩ := fin_ok (x := .d .non) s0 e1 s1
    rw [← q1]
    refine h2 _ w2 cls d (by rw [q3]) q4 q5 ?_
    unfold ExnOk at hex ⊢
    rw [q2]
    exact hex
  · cases hf
theorem okDG {x : Str} {st : Stmt} {N ps : List Str} {k : Nat} {body : SF} (D : Dx K mg x st ps) (S : FnScope N ps (defScope st))
    (hbody : ∀ (f : Addr) (cdv : Value) (A : Around) (outer : List Env) (s : Shared) (H : Hp) (E : XK), BdG (cxOf (L2.CX P w) P w K mg base N x (defScope st) f cdv A outer s H E) E k → ∃ t, PBl K (cxOf (L2.CX P w) P w K mg base N x (defScope st) f cdv A outer s H E) E (defBody st) t body) :
    FnG P w K mg base (k + 1) x ps.length (fnB N.length body) := by
  obtain ⟨f, fd, F, hm, hb⟩ := D.ex
  exact ⟨f, fd, ps, okFG F S (hbody f), hm, F.kp, hb, rfl⟩
end
section
variable {X : Cx} {E : XK} {K : PySem.W.Frag}
/-- a call of such a def -/
theorem pd_defG {k n : Nat} {x : Str} {e : Expr} {es : List Expr} {p pos : Pos} {fn : FN} {t : TA} {f : AF} (B : BdG X E k) (F : FnG X.prog X.w K X.mg X.base k x n fn) (ha : PL K X E (e :: es) t f) (hn : ALen f n) (hg : Gl X x := by rfl) (hK : X.K = K := by rfl)
    (hdb : (x == ("__debug__" : Str)) = false := by decide) (he : starEach (e :: es) X.env = (false, eval e X.env) :: starEach es X.env := by rfl) (hpl : (backTo pos (starEach es X.env)).any (·.1) = false := by rfl) :
    PD K X E (.Call (.Name x p) (e :: es) [] pos) (tCall (spM K n fn) [] E t) (eDef fn f) := by
  subst hK
  obtain ⟨fa, fd, ps, h1, h2, h3, h4, h5⟩ := F.ex
  refine ⟨⟨fun pins s σ H Q I h => wpAny_Call_Name_kw (ld_glob I hg h2 (PySem.W.callWith_K (h₀ := X.base) I.ok.mod.kin h3 (thn (ha.pe.run pos pins s σ H _ I h) fun us s1 z => ?_) he hpl) hdb)⟩, eok_def hn ha.ok⟩
  obtain ⟨vs, H1, I1, r, q⟩ := z
  refine ⟨I1.kIn, wpAny_call (codeAny_mono (h1.run X.A X.stack s1 H1 us vs Q E B.gd B.room I1.env0 ?_ r (by rw [List.append_nil] at q; exact q)) fun r' s' hq => ?_)⟩
  · have hb := h4 s1 us I1.kIn (by rw [List.append_nil, ← r.length]; exact h1.len _ _ _ _ (by rw [List.append_nil] at q; exact q))
    rw [List.append_nil] at hb
    exact hb
  · match r', hq with
    | .error e', hq => exact B.pas pins σ H1 s1 e' s' I1 hq
    | .ok (.ret u), hq => exact I1.after hq
    | .ok .next, hq => exact hq.elim
    | .ok .brk, hq => exact hq.elim
    | .ok .cont, hq => exact hq.elim
end
end Fm
set_option Elab.async false
set_option linter.all false
set_option maxRecDepth 100000
namespace Fm
open PySem L2 PySem.Spec PyProof.Rows
/-! ### the law's run, told by such a def -/
section
variable {s₁ : Shared} {a : Addr} {o : Obj} {K : PySem.W.Frag}
/-- only the script is held, where the module doesn't hold it -/
def heldH (K : PySem.W.Frag) (a : Addr) (o : Obj) (ns : List Int) : Hp := fun b => if b = a ∧ K.lookup a = none then some (.frz o (.lst (ns.map V.int))) else none
theorem held_some {ns : List Int} {b : Addr} {u : HO} (h : heldH K a o ns b = some u) : b = a ∧ K.lookup a = none ∧ u = .frz o (.lst (ns.map V.int)) := by
  unfold heldH at h
  split at h
  · rename_i hc
    cases h
    exact ⟨hc.1, hc.2, rfl⟩
  · cases h
end
theorem run_law {P : Program} {w : World} {K : PySem.W.Frag} {mg mb : Str → Option Value} {k : Nat} {fa a : Addr} {fd : FuncData} {x : Str} {fn : FN} {s₁ : Shared} {vs : List Value} {ns : List Int}
    (KX : K.In s₁.heap) (hns : s₁.heap.Ns mainGlobals mg) (hb : s₁.heap.Ns builtinsNs mb) (hbb : ∀ x : Str, x ≠ "__name__" → mb x = bootBuiltins x) (hlim : s₁.heap.NoLimit) (hg : s₁.gens = #[])
    (ha : s₁.heap.get? a = some { cls := .type "list", data := .seq vs.toArray }) (hi : IntsAre vs ns) (hl : ns.length ≤ 63) (hr : Room k callerA)
    (F : ∀ base : Heap, K.In base → base.Ns mainGlobals mg → FnOkG P w K mg base (L2.CX P w) k fa fd [x] (spM K 1 fn)) (hbind : ∀ (s : Shared) (u : Value), BindsTo s fd ⟨[u], []⟩ [(x, u)])
    (hlaw : ∀ ns : List Int, ns.length ≤ 63 → ∃ μ, fn [.d (.kl ns)] [] = some (.ok (.d (.bl true)) μ)) :
    codeAny (model P w) callerA (.call (.ref fa) ⟨[.ref a], []⟩) (fun r s' => r = .ok (.ret (.bool true)) ∧ OldK s₁.heap s'.heap ∧ s'.os = s₁.os ∧ AllBare s'.gens) s₁ := by
  have rv := vals_ints hi
  have hsz : ns.length ≤ sizeLine := Nat.le_trans hl (by decide)
  generalize ho : ({ cls := .type "list", data := .seq vs.toArray } : Obj) = o at ha
  let H : Hp := heldH K a o ns
  have got : ∀ {b : Addr} {q : Obj}, s₁.heap.get? b = some q → H b = none → (hidT s₁.heap H).get? b = some q := fun e n => hidT_get e n
  have nodict : ∀ {b : Addr} {q : Obj} {es : Array DictEntry} {ep : Nat}, s₁.heap.get? b = some q → q.data = .dict es ep → H b = none := fun {b q es ep} e d => by
    cases hq : H b with
    | none => rfl
    | some u =>
      obtain ⟨rfl, _, _⟩ := held_some hq
      rw [ha] at e
      cases e
      rw [← ho] at d
      cases d
  have spaces : ∀ {b : Addr} {m : Str → Option Value}, s₁.heap.Ns b m → (hidT s₁.heap H).Ns b m := fun {b m} ⟨q, es, ep, e, d, r⟩ => ⟨q, es, ep, got e (nodict e d), d, r⟩
  have base : K.In (hidT s₁.heap H) := fun b q e => got (KX b q e) (by
    cases hq : H b with
    | none => rfl
    | some u =>
      obtain ⟨rfl, h2, _⟩ := held_some hq
      rw [h2] at e
      cases e)
  have hok : HOk P w H s₁.heap := fun b u hu => by
    obtain ⟨rfl, _, rfl⟩ := held_some hu
    exact ⟨ha, by rw [List.length_map]; exact hsz, vs, _, rv, by rw [ha, ← ho]⟩
  have e0 : Env0 P w K mg (hidT s₁.heap H) callerA [] s₁ H := ⟨rfl, ⟨base, spaces hns, ⟨mb, spaces hb, hbb⟩, let ⟨mc, h1, h2⟩ := hlim; ⟨mc, spaces h1, h2⟩⟩, fun b q e => of_hidT e, Nat.le_of_eq (hidT_size _ _), trivial, fun b hb => (by cases hb), hok, .of_eq hg⟩
  have hS : SqL K H a (ns.map V.int) := by
    cases hk : K.lookup a with
    | none => exact .inl (.inr ⟨o, if_pos ⟨rfl, hk⟩⟩)
    | some q =>
      have e := KX a q hk
      rw [ha] at e
      cases e
      subst ho
      exact .inr ⟨_, vs.toArray, _, hk, rfl, rfl, rfl, by rw [List.size_toArray, hi.length]; exact hsz, by simpa using rv⟩
  refine codeAny_mono ((F _ base (spaces hns)).run callerA [] s₁ H [.ref a] [.ref a] (fun v _ => v = .bl true) (fun _ _ _ => False) rfl hr e0 (hbind s₁ (.ref a)) (.cons rfl .nil) (sp_law hlaw hl hS)) fun r s' h => ?_
  match r, h with
  | .error e, h =>
    obtain ⟨_, _, _, _, _, _, _, _, _, _, _, _, z⟩ := h
    exact z.elim
  | .ok .next, h => exact h.elim
  | .ok .brk, h => exact h.elim
  | .ok .cont, h => exact h.elim
  | .ok (.ret u), ⟨v, H', os, bare, un, hok', r', q⟩ =>
    have q : v = .bl true := q
    subst q
    obtain rfl : u = Value.bool true := r'
    refine ⟨rfl, OldK.of_keep fun b q e => ?_, os, bare⟩
    cases hq : H b with
    | none => exact un.keep b q e hq (fun z => by cases z) (fun z => by cases z)
    | some u =>
      obtain ⟨rfl, _, rfl⟩ := held_some hq
      obtain ⟨e2, _⟩ := hok' b _ (un.frzs b _ _ hq)
      rw [ha] at e
      cases e
      exact e2
theorem walkG {l : PySem.W.OpenLaw} {k : Nat} {q : Program} {loose : List Str} {XP : (Str → Option Value) → Heap → Prop} {YP : World → Heap → Prop} {d : DefRec} {K : Params → PySem.W.Frag} {x : Str} {fn : FN} (hn : l.most = some 63) (hdf : d.params.defaults = []) (hr : Room k callerA)
    (hY : ∀ (w : World) (h : Heap), YP w h → (K w.params).In h)
    (F : ∀ (w : World) (mg : Str → Option Value) (fa : Addr) (h : Heap), (K w.params).In h → h.Ns mainGlobals mg → mg d.name = some (.ref fa) →
      ∃ fd : FuncData, (∀ (s : Shared) (u : Value), BindsTo s fd ⟨[u], []⟩ [(x, u)]) ∧ ∀ base : Heap, (K w.params).In base → base.Ns mainGlobals mg → FnOkG l.prog w (K w.params) mg base (L2.CX l.prog w) k fa fd [x] (spM (K w.params) 1 fn))
    (hlaw : ∀ ns : List Int, ns.length ≤ 63 → ∃ μ, fn [.d (.kl ns)] [] = some (.ok (.d (.bl true)) μ)) :
    PySem.W.WalkO q loose XP YP l.row.toRowW d [] (fun f vs => PySem.call f vs) := by
  refine _root_.Att.attach_call hn hdf fun w s₀ s₁ mg mb fa o pm cd doc a vs ns G Y ho hd hcd hmg hobj hints hlen hg => ?_
  obtain ⟨fd, hb, hF⟩ := F w mg fa _ (hY w _ Y) G.T.g hmg
  exact run_law (hY w _ Y) G.T.g G.T.b G.T.builtins G.T.nolimit hg hobj hints hlen hr hF hb hlaw
end Fm
set_option Elab.async false
set_option linter.all false
set_option maxRecDepth 100000
namespace Fm
open PySem L2 PySem.Spec PyProof.Rows
/-! ### repr of data -/
def pyK : Key → PyData
  | .inl i => .int i
  | .inr s => .str s
mutual
def pyD : D → PyData
  | .non => .none
  | .bl b => .bool b
  | .int i => .int i
  | .str s => .str s
  | .lst ds => .list (pyDs ds)
  | .tup ds => .tuple (pyDs ds)
  | .dct kvs => .dict (pyDk kvs)
  | .kl ns => .list (ns.map PyData.int)
def pyDs : List D → List PyData
  | [] => []
  | d :: r => pyD d :: pyDs r
def pyDk : List (Key × D) → List (PyData × PyData)
  | [] => []
  | (k, d) :: r => (pyK k, pyD d) :: pyDk r
end
/-- a value reads as p, and its repr is p's text -/
def RIt (P : Program) (w : World) (h : Heap) (u : Value) (p : PyData) : Prop := ∃ as bs, Reads h u p as ∧ ReadAtMost h p.depth bs ∧ ReprK P w bs h p.depth u p.shown
def RAll (P : Program) (w : World) (h : Heap) (us : List Value) (ps : List PyData) : Prop := ∃ as bs, ReadsAll h us ps as ∧ ReadAtMost h (PyData.depthAll ps) bs ∧ ReprAllK P w bs h (PyData.depthAll ps) us (PyData.shownAll ps)
def REn (P : Program) (w : World) (h : Heap) (es : List DictEntry) (ps : List (PyData × PyData)) : Prop := ∃ as as' bs, ReadsAll h (es.map (·.key)) (ps.map (·.1)) as ∧ ReadsAll h (es.map (·.val)) (ps.map (·.2)) as' ∧ ReadAtMost h (PyData.depthKv ps) bs ∧ ReprEntriesK P w bs h (PyData.depthKv ps) es (PyData.shownKv ps)
section
variable {P : Program} {w : World} {h : Heap} {u : Value} {a : Addr}
theorem ram_le {n m : Nat} {bs : List Addr} (q : ReadAtMost h n bs) (l : n ≤ m) : ReadAtMost h m bs := fun b hb => by
  obtain ⟨d, as, r, hd⟩ := q b hb
  exact ⟨d, as, r, Nat.le_trans hd l⟩
theorem ram_app {n : Nat} {bs cs : List Addr} (q : ReadAtMost h n bs) (r : ReadAtMost h n cs) : ReadAtMost h n (bs ++ cs) := fun b hb => (List.mem_append.mp hb).elim (q b) (r b)
theorem RAll.nil : RAll P w h [] [] := ⟨[], [], .nil, (fun _ z => nomatch z), .nil⟩
theorem RAll.cons {us : List Value} {p : PyData} {ps : List PyData} (x : RIt P w h u p) (y : RAll P w h us ps) : RAll P w h (u :: us) (p :: ps) := by
  obtain ⟨a1, b1, r1, m1, k1⟩ := x
  obtain ⟨a2, b2, r2, m2, k2⟩ := y
  refine ⟨_, b1 ++ b2, .cons r1 r2, ?_, ?_⟩
  · simp only [PyData.depthAll]
    exact ram_app (ram_le m1 (Nat.le_max_left _ _)) (ram_le m2 (Nat.le_max_right _ _))
  · simp only [PyData.depthAll, PyData.shownAll]
    exact .cons ((k1.more fun b hb => List.mem_append_left _ hb).level_le (Nat.le_max_left _ _)) (k2.more_le (fun b hb => List.mem_append_right _ hb) (Nat.le_max_right _ _))
theorem REn.nil : REn P w h [] [] := ⟨[], [], [], .nil, .nil, (fun _ z => nomatch z), .nil⟩
theorem REn.cons {e : DictEntry} {es : List DictEntry} {k p : PyData} {ps : List (PyData × PyData)} (z : RIt P w h e.key k) (x : RIt P w h e.val p) (y : REn P w h es ps) : REn P w h (e :: es) ((k, p) :: ps) := by
  obtain ⟨a0, b0, r0, m0, k0⟩ := z
  obtain ⟨a1, b1, r1, m1, k1⟩ := x
  obtain ⟨a2, a3, b2, r2, r3, m2, k2⟩ := y
  have l0 : k.depth ≤ max (max k.depth p.depth) (PyData.depthKv ps) := Nat.le_trans (Nat.le_max_left _ _) (Nat.le_max_left _ _)
  have l1 : p.depth ≤ max (max k.depth p.depth) (PyData.depthKv ps) := Nat.le_trans (Nat.le_max_right _ _) (Nat.le_max_left _ _)
  have l2 : PyData.depthKv ps ≤ max (max k.depth p.depth) (PyData.depthKv ps) := Nat.le_max_right _ _
  have more : ∀ {bs cs : List Addr} {n m : Nat} {es : List DictEntry} {ts : List Str}, (∀ b ∈ bs, b ∈ cs) → n ≤ m → ReprEntriesK P w bs h n es ts → ReprEntriesK P w cs h m es ts := fun {bs cs n m es ts} hs hl q => by
    induction q with
    | nil => exact .nil
    | cons hk hv _ ih => exact .cons ((hk.more hs).level_le hl) ((hv.more hs).level_le hl) ih
  refine ⟨_, _, b0 ++ b1 ++ b2, .cons r0 r2, .cons r1 r3, ?_, ?_⟩
  · simp only [PyData.depthKv]
    exact ram_app (ram_app (ram_le m0 l0) (ram_le m1 l1)) (ram_le m2 l2)
  · simp only [PyData.depthKv, PyData.shownKv]
    exact .cons ((k0.more fun b hb => List.mem_append_left _ (List.mem_append_left _ hb)).level_le l0) ((k1.more fun b hb => List.mem_append_left _ (List.mem_append_right _ hb)).level_le l1) (more (fun b hb => List.mem_append_right _ hb) l2 k2)
theorem ram_cons {p : PyData} {as bs : List Addr} {n : Nat} (r : Reads h (.ref a) p as) (hl : n ≤ p.depth) (q : ReadAtMost h n bs) : ReadAtMost h p.depth (a :: bs) := fun b hb => by
  rcases List.mem_cons.mp hb with e | e
  · subst e; exact ⟨p, as, r, Nat.le_refl _⟩
  · exact ram_le q hl b e
theorem RIt.list {us : List Value} {ps : List PyData} (hl : h.IsList a us.toArray) (x : RAll P w h us ps) : RIt P w h (.ref a) (.list ps) := by
  obtain ⟨o, h1, h2, n, h3⟩ := hl
  obtain ⟨as, bs, r, m, k⟩ := x
  have r' : Reads h (.ref a) (.list ps) _ := .list h1 h2 h3 r
  have hna : a ∉ bs := not_mem_of_deeper r' (by simp only [PyData.depth]; omega) m
  refine ⟨_, a :: bs, r', ram_cons r' (by simp only [PyData.depth]; omega) m, ?_⟩
  simp only [PyData.depth, PyData.shown]
  cases us with
  | nil =>
    cases r
    simp only [PyData.shownAll, listText_nil]
    exact ReprK.listEmpty h1 h2 h3
  | cons y l => exact ReprK.list h1 h2 h3 hna (by simpa using k.length_eq) (fun i y e => k.item i y (by simpa using e))
theorem RIt.tuple {us : List Value} {ps : List PyData} (hl : h.IsTuple a us.toArray) (x : RAll P w h us ps) : RIt P w h (.ref a) (.tuple ps) := by
  obtain ⟨o, h1, h2, n, h3⟩ := hl
  obtain ⟨as, bs, r, m, k⟩ := x
  have r' : Reads h (.ref a) (.tuple ps) _ := .tuple h1 h2 h3 r
  have hna : a ∉ bs := not_mem_of_deeper r' (by simp only [PyData.depth]; omega) m
  refine ⟨_, a :: bs, r', ram_cons r' (by simp only [PyData.depth]; omega) m, ?_⟩
  simp only [PyData.depth, PyData.shown]
  exact ReprK.tuple h1 h2 h3 hna k
theorem RIt.dict {o : Obj} {es : Array DictEntry} {n : Nat} {ps : List (PyData × PyData)} (h1 : h.get? a = some o) (h2 : o.cls = .type "dict") (h3 : o.data = .dict es n) (hs : (a == sysModules) = false) (x : REn P w h es.toList ps) : RIt P w h (.ref a) (.dict ps) := by
  obtain ⟨as, as', bs, r, q, m, k⟩ := x
  have r' : Reads h (.ref a) (.dict ps) _ := .dict h1 h2 h3 r q
  have hna : a ∉ bs := not_mem_of_deeper r' (by simp only [PyData.depth]; omega) m
  refine ⟨_, a :: bs, r', ram_cons r' (by simp only [PyData.depth]; omega) m, ?_⟩
  simp only [PyData.depth, PyData.shown]
  exact ReprK.dict h1 h2 h3 hs hna k
end
section
variable {X : Cx} {pins : List (Addr × Obj)} {σ : L2.St} {H : Hp} {s : Shared}
theorem leaf_int {i : Int} {t : Tok} (hi : i.natAbs.log2 < 1920) : RIt X.prog X.w s.heap (.int i t) (.int i) := ⟨[], [], .int i t, (fun _ z => nomatch z), by simp only [PyData.shown]; exact .of_is (ReprIs.int t hi) _ _ _⟩
theorem leaf_str {x : Str} {t : Tok} (hz : (PyData.str x).shown.length ≤ sizeLine) : RIt X.prog X.w s.heap (.str x t) (.str x) := ⟨[], [], .str x t, (fun _ z => nomatch z), by simp only [PyData.shown] at hz ⊢; exact .of_is (ReprIs.str x t hz) _ _ _⟩
theorem leaf_ints : ∀ {ns : List Int} {us : List Value}, Vals (ns.map V.int) us → PyData.showableAll (ns.map PyData.int) = true → RAll X.prog X.w s.heap us (ns.map PyData.int)
  | [], _, .nil, _ => .nil
  | i :: ns, _, .cons r t, hs => by
    obtain ⟨tk, rfl⟩ := r
    have hs' : (PyData.int i).showable = true ∧ PyData.showableAll (ns.map PyData.int) = true := by simpa [PyData.showableAll] using hs
    exact .cons (leaf_int (by simpa [PyData.showable] using hs'.1)) (leaf_ints t hs'.2)
mutual
theorem rep_item (I : Inv X pins σ H s) : ∀ (d : D) {v : V} {u : Value}, Rep X.K H d v → RelV v u → (pyD d).showable = true → (pyD d).shown.length ≤ sizeLine → RIt X.prog X.w s.heap u (pyD d)
  | .non, v, u, h, r, _, _ => by
    cases (show v = .non from h)
    cases r
    exact ⟨[], [], .none, (fun _ z => nomatch z), by rw [pyD]; simp only [PyData.shown]; exact .of_is ReprIs.none _ _ _⟩
  | .bl b, v, u, h, r, _, _ => by
    cases (show v = .bl b from h)
    cases r
    exact ⟨[], [], .bool b, (fun _ z => nomatch z), by rw [pyD]; simp only [PyData.shown]; exact .of_is (ReprIs.bool b) _ _ _⟩
  | .int i, v, u, h, r, hs, _ => by
    cases (show v = .int i from h)
    obtain ⟨t, rfl⟩ := r
    rw [pyD] at hs ⊢
    exact leaf_int (by simpa [PyData.showable] using hs)
  | .str x, v, u, h, r, _, hz => by
    cases (show v = .str x from h)
    obtain ⟨t, rfl⟩ := r
    rw [pyD] at hz ⊢
    exact leaf_str hz
  | .lst ds, v, u, h, r, hs, hz => by
    obtain ⟨a, vs, rfl, h1, h2⟩ := h
    cases r
    obtain ⟨us, r1, p1⟩ := list_at I h1
    rw [pyD] at hs hz ⊢
    have hz' : (listText (PyData.shownAll (pyDs ds))).length ≤ sizeLine := by simpa only [PyData.shown] using hz
    exact .list p1 (rep_items I ds h2 r1 (by simpa [PyData.showable] using hs) fun t ht => Nat.le_trans (listText_mem_le ht) hz')
  | .tup ds, v, u, h, r, hs, hz => by
    obtain ⟨a, vs, rfl, h1, h2⟩ := h
    cases r
    obtain ⟨us, r1, p1⟩ := tuple_at I h1
    rw [pyD] at hs hz ⊢
    have hz' : (tupleText (PyData.shownAll (pyDs ds))).length ≤ sizeLine := by simpa only [PyData.shown] using hz
    exact .tuple p1 (rep_items I ds h2 r1 (by simpa [PyData.showable] using hs) fun t ht => Nat.le_trans (tupleText_mem_le ht) hz')
  | .dct kvs, v, u, h, r, hs, hz => by
    obtain ⟨a, ws, rfl, h1, h2⟩ := h
    cases r
    obtain ⟨_, hsys, vs, kv, o, es, ep, ho, ⟨hc, _⟩, hd, _, hp, _⟩ := dk_rd I.hok h1
    rw [pyD] at hs hz ⊢
    have hz' : (dictText (PyData.shownKv (pyDk kvs))).length ≤ sizeLine := by simpa only [PyData.shown] using hz
    exact .dict ho hc hd hsys (rep_ents I kvs h2 kv hp (by simpa [PyData.showable] using hs) fun t ht => Nat.le_trans (dictText_mem_le ht) hz')
  | .kl ns, v, u, h, r, hs, _ => by
    obtain ⟨a, rfl, h1⟩ := h
    cases r
    obtain ⟨us, r1, p1, _⟩ := I.list h1
    rw [pyD] at hs ⊢
    exact .list p1.isList (leaf_ints r1 (by simpa [PyData.showable] using hs))
theorem rep_items (I : Inv X pins σ H s) : ∀ (ds : List D) {vs : List V} {us : List Value}, Reps X.K H ds vs → Vals vs us → PyData.showableAll (pyDs ds) = true → (∀ t ∈ PyData.shownAll (pyDs ds), t.length ≤ sizeLine) → RAll X.prog X.w s.heap us (pyDs ds)
  | [], vs, us, h, r, _, _ => by
    cases (show vs = [] from h)
    cases r
    rw [pyDs]
    exact .nil
  | d :: ds, vs, us, h, r, hs, hz => by
    obtain ⟨v, q, rfl, h1, h2⟩ := h
    cases r with
    | cons r1 r2 =>
      rw [pyDs] at hs hz ⊢
      have hs' : (pyD d).showable = true ∧ PyData.showableAll (pyDs ds) = true := by simpa [PyData.showableAll] using hs
      simp only [PyData.shownAll] at hz
      exact .cons (rep_item I d h1 r1 hs'.1 (hz _ List.mem_cons_self)) (rep_items I ds h2 r2 hs'.2 fun t ht => hz t (List.mem_cons_of_mem _ ht))
theorem rep_ents (I : Inv X pins σ H s) : ∀ (kvs : List (Key × D)) {ws : List (Key × V)} {vs : List (Key × Value)} {es : List DictEntry}, RepK X.K H kvs ws → KV ws vs → Pairs (mixKind X.prog X.w) es vs → PyData.showableKv (pyDk kvs) = true → (∀ t ∈ PyData.shownKv (pyDk kvs), t.length ≤ sizeLine) → REn X.prog X.w s.heap es (pyDk kvs)
  | [], ws, vs, es, h, kv, p, _, _ => by
    cases (show ws = [] from h)
    cases kv
    cases p
    rw [pyDk]
    exact .nil
  | (k, d) :: kvs, ws, vs, es, h, kv, p, hs, hz => by
    obtain ⟨v, q, rfl, h1, h2⟩ := h
    cases kv with
    | cons c t =>
      cases p with
      | cons e1 e2 e3 =>
        rename_i y _ e _
        obtain ⟨c1, c2⟩ := c
        rw [pyDk] at hs hz ⊢
        have hs' : ((pyK k).showable = true ∧ (pyD d).showable = true) ∧ PyData.showableKv (pyDk kvs) = true := by simpa [PyData.showableKv, and_assoc] using hs
        have hzk := PyData.shownKv_key_le ((pyK k, pyD d) :: pyDk kvs) (pyK k).shown (by simp [PyData.shownAll])
        have hzv := PyData.shownKv_val_le ((pyK k, pyD d) :: pyDk kvs) (pyD d).shown (by simp [PyData.shownAll])
        obtain ⟨t1, m1, l1⟩ := hzk
        obtain ⟨t2, m2, l2⟩ := hzv
        have c1 : k = y.1 := c1
        have hk : RIt X.prog X.w s.heap e.key (pyK k) := by
          rw [← c1] at e1
          rcases keyIs_shape e1 with ⟨i, tk, rfl, e⟩ | ⟨x, tk, rfl, e⟩
          · rw [e]
            exact leaf_int (by simpa [pyK, PyData.showable] using hs'.1.1)
          · rw [e]
            exact leaf_str (Nat.le_trans l1 (hz _ m1))
        refine .cons hk ?_ (rep_ents I kvs h2 t e3 hs'.2 fun t ht => hz t (by simp only [PyData.shownKv]; exact List.mem_cons_of_mem _ ht))
        rw [e2]
        exact rep_item I d h1 c2 hs'.1.2 (Nat.le_trans l2 (hz _ m2))
end
end
end Fm
set_option Elab.async false
set_option linter.all false
set_option maxRecDepth 100000
namespace Fm
open PySem L2 PySem.Spec PyProof.Rows
section
variable {P : Program} {w : World} {A : Around} {E : Value → Shared → Prop} {s : Shared} {Q : Value → Shared → Prop} {a : Addr}
theorem top_list {us : List Value} {ps : List PyData} (hl : s.heap.IsList a us.toArray) (x : RAll P w s.heap us ps) (hg : A.guards = some []) (hu : A.units + (PyData.depthAll ps + 2) < cLine) (hz : (listText (PyData.shownAll ps)).length ≤ sizeLine)
    (hQ : ∀ h' u tk, (∀ b o, s.heap.get? b = some o → h'.get? b = some o) → Q (.str (listText (PyData.shownAll ps)) u) { s with heap := h', toks := tk }) : wpAny (model P w) A (call (.builtin "repr") [.ref a]) Q E s := by
  obtain ⟨o, h1, h2, n, h3⟩ := hl
  obtain ⟨as, bs, r, m, k⟩ := x
  have hna : a ∉ bs := not_mem_of_deeper (.list h1 h2 h3 r) (by simp only [PyData.depth]; omega) m
  refine call_repr_slot (by omega) ⟨o, h1, h2⟩ F.slot_list_repr.toG ?_
  cases us with
  | nil =>
    cases r
    simp only [PyData.shownAll, listText_nil] at hQ
    exact call_list_repr_empty ⟨o, h1, h2⟩ h1 h3 ⟨_, _, rfl, hQ s.heap _ _ fun _ _ e => e⟩
  | cons y l => exact call_list_reprK (A := A.in1) h1 h2 h3 hna (by simpa using k.length_eq) (fun i y e => k.item i y (by simpa using e)) hg (fun b _ => Clear.nil b) (by show A.units + 1 + (PyData.depthAll ps + 1) < cLine; omega) (fun _ _ e => e) (fun h' u tk hk => ⟨_, _, rfl, hQ h' u tk hk⟩) hz
theorem top_tuple {us : List Value} {ps : List PyData} (hl : s.heap.IsTuple a us.toArray) (x : RAll P w s.heap us ps) (hg : A.guards = some []) (hu : A.units + (PyData.depthAll ps + 2) < cLine) (hz : (tupleText (PyData.shownAll ps)).length ≤ sizeLine)
    (hQ : ∀ h' u tk, (∀ b o, s.heap.get? b = some o → h'.get? b = some o) → Q (.str (tupleText (PyData.shownAll ps)) u) { s with heap := h', toks := tk }) : wpAny (model P w) A (call (.builtin "repr") [.ref a]) Q E s := by
  obtain ⟨o, h1, h2, n, h3⟩ := hl
  obtain ⟨as, bs, r, m, k⟩ := x
  have hna : a ∉ bs := not_mem_of_deeper (.tuple h1 h2 h3 r) (by simp only [PyData.depth]; omega) m
  exact call_repr_slot (by omega) ⟨o, h1, h2⟩ F.slot_tuple_repr (call_tuple_reprK (A := A.in1) h1 h2 h3 hna k hg (fun b _ => Clear.nil b) (by show A.units + 1 + (PyData.depthAll ps + 1) < cLine; omega) (fun _ _ e => e) (fun h' u tk hk => ⟨_, _, rfl, hQ h' u tk hk⟩) hz)
theorem top_dict {o : Obj} {es : Array DictEntry} {n : Nat} {ps : List (PyData × PyData)} (h1 : s.heap.get? a = some o) (h2 : o.cls = .type "dict") (h3 : o.data = .dict es n) (hsys : (a == sysModules) = false) (x : REn P w s.heap es.toList ps) (hg : A.guards = some []) (hu : A.units + (PyData.depthKv ps + 2) < cLine) (hz : (dictText (PyData.shownKv ps)).length ≤ sizeLine)
    (hQ : ∀ h' u tk, (∀ b o, s.heap.get? b = some o → h'.get? b = some o) → Q (.str (dictText (PyData.shownKv ps)) u) { s with heap := h', toks := tk }) : wpAny (model P w) A (call (.builtin "repr") [.ref a]) Q E s := by
  obtain ⟨as, as', bs, r, q, m, k⟩ := x
  have hna : a ∉ bs := not_mem_of_deeper (.dict h1 h2 h3 r q) (by simp only [PyData.depth]; omega) m
  exact call_repr_slot (by omega) ⟨o, h1, h2⟩ F.slot_dict_repr (call_dict_reprK (A := A.in1) h1 h2 h3 hsys hna k hg (fun b _ => Clear.nil b) (by show A.units + 1 + (PyData.depthKv ps + 1) < cLine; omega) (fun _ _ e => e) (fun h' u tk hk => ⟨_, _, rfl, hQ h' u tk hk⟩) hz)
end
/-- what repr tells of data -/
def shD (d : D) : Str := (pyD d).shown
def shOk (d : D) : Bool := (pyD d).showable && decide ((pyD d).shown.length ≤ sizeLine ∧ (pyD d).depth ≤ 60)
section
variable {X : Cx} {E : XK} {K : PySem.W.Frag}
theorem repr_top {pins : List (Addr × Obj)} {σ : L2.St} {H : Hp} {s : Shared} (I : Inv X pins σ H s) (hg : X.A.guards = some []) (hu : X.A.units + 64 < cLine) {d : D} {v : V} {u : Value} (h : Rep X.K H d v) (r : RelV v u) (ok : shOk d = true) {Q : VK} (q : Q (.str (shD d)) H) : wpAny (model X.prog X.w) X.A (call (.builtin "repr") [u]) (EP X pins σ Q) X.xe s := by
  unfold shOk at ok
  rw [Bool.and_eq_true, decide_eq_true_eq] at ok
  obtain ⟨hs, hz, hd⟩ := ok
  unfold shD at q
  have fin : ∀ h' t tk, (∀ b o, s.heap.get? b = some o → h'.get? b = some o) → EP X pins σ Q (.str (pyD d).shown t) { s with heap := h', toks := tk } := fun h' t tk hk => ⟨.str _, H, I.kept hk, ⟨_, rfl⟩, q⟩
  cases d with
  | non =>
    cases (show v = .non from h)
    cases r
    exact PySem.P.repr_of_none (fin s.heap _ _ fun _ _ e => e)
  | bl b =>
    cases (show v = .bl b from h)
    cases r
    refine PySem.P.repr_of_bool ?_
    have := fin s.heap s.toks (s.toks + 1) fun _ _ e => e
    rw [pyD] at this
    simp only [PyData.shown] at this
    cases b <;> exact this
  | int i =>
    cases (show v = .int i from h)
    obtain ⟨t, rfl⟩ := r
    rw [pyD] at hs
    refine PySem.P.repr_of_int (by simpa [PyData.showable] using hs) ?_
    have := fin s.heap s.toks (s.toks + 1) fun _ _ e => e
    rw [pyD] at this
    simp only [PyData.shown] at this
    exact this
  | str x =>
    cases (show v = .str x from h)
    obtain ⟨t, rfl⟩ := r
    rw [pyD] at hz
    simp only [PyData.shown] at hz
    refine PySem.P.repr_of_str ?_ hz
    have := fin s.heap s.toks (s.toks + 1) fun _ _ e => e
    rw [pyD] at this
    simp only [PyData.shown] at this
    exact this
  | lst ds =>
    obtain ⟨a, vs, rfl, h1, h2⟩ := h
    cases r
    obtain ⟨us, r1, p1⟩ := list_at I h1
    rw [pyD] at hs hz hd fin
    simp only [PyData.shown, PyData.depth, PyData.showable] at hs hz hd fin
    exact top_list p1 (rep_items I ds h2 r1 hs fun t ht => Nat.le_trans (listText_mem_le ht) hz) hg (by omega) hz fin
  | tup ds =>
    obtain ⟨a, vs, rfl, h1, h2⟩ := h
    cases r
    obtain ⟨us, r1, p1⟩ := tuple_at I h1
    rw [pyD] at hs hz hd fin
    simp only [PyData.shown, PyData.depth, PyData.showable] at hs hz hd fin
    exact top_tuple p1 (rep_items I ds h2 r1 hs fun t ht => Nat.le_trans (tupleText_mem_le ht) hz) hg (by omega) hz fin
  | dct kvs =>
    obtain ⟨a, ws, rfl, h1, h2⟩ := h
    cases r
    obtain ⟨_, hsys, vs, kv, o, es, ep, ho, ⟨hc, _⟩, hdt, _, hp, _⟩ := dk_rd I.hok h1
    rw [pyD] at hs hz hd fin
    simp only [PyData.shown, PyData.depth, PyData.showable] at hs hz hd fin
    exact top_dict ho hc hdt hsys (rep_ents I kvs h2 kv hp hs fun t ht => Nat.le_trans (dictText_mem_le ht) hz) hg (by omega) hz fin
  | kl ns =>
    obtain ⟨a, rfl, h1⟩ := h
    cases r
    obtain ⟨us, r1, p1, _⟩ := I.list h1
    rw [pyD] at hs hz hd fin
    simp only [PyData.shown, PyData.depth, PyData.showable] at hs hz hd fin
    exact top_list p1.isList (leaf_ints r1 hs) hg (by omega) hz fin
def rReprN (K : PySem.W.Frag) : RCall := fun xs H Q => ∃ d v, xs = [v] ∧ Rep K H d v ∧ shOk d = true ∧ Q (.str (shD d)) H
def gReprN (_ : Mu) (xs : List T) : Option T := match xs with
  | [.d d] => if shOk d = true then some (.d (.str (shD d))) else none
  | _ => none
/-- repr(x), nested data -/
theorem bi_reprN (hg : X.A.guards = some []) (hu : X.A.units + 64 < cLine) (hK : X.K = K := by rfl) : BI K X (.builtin "repr") (rReprN K) gReprN := by
  subst hK
  refine ⟨fun pins s σ H xs us Q I r h => ?_, fun w xs vs z s hx e => ?_⟩
  · obtain ⟨d, v, rfl, h1, h2, q⟩ := h
    obtain ⟨u, rfl, ru⟩ := vals1 r
    exact repr_top I hg hu h1 ru h2 q
  · unfold gReprN at e
    split at e
    · rename_i d
      obtain ⟨v, rfl, hv⟩ := one_of hx
      split at e
      · rename_i hc
        cases e
        refine ⟨.str (shD d), rfl, fun Q q => ⟨d, v, rfl, ?_, hc, q⟩⟩
        exact Rep.mono s.sub (show Rep X.K w.F d v from hv)
      · cases e
    · cases e
end
end Fm
set_option Elab.async false
set_option linter.all false
set_option maxRecDepth 100000
namespace Fm
open PySem L2 PySem.Spec PyProof.Rows
/-! ### sorted(xs, key=f), f a def: the calls -/
/-- between two calls of the key: s the state of the call of sorted, x the list that is sorted, kS the list of the keys -/
structure Mid (X : Cx) (H : Hp) (s : Shared) (x kS : Addr) (e1 : Nat) (H' : Hp) (ks : List Value) (s' : Shared) : Prop where
  os : s'.os = s.os
  bare : AllBare s'.gens
  un : Un (frs X.stack) [] H H' s.heap s'.heap
  hok : HOk X.prog X.w H' s'.heap
  nx : s'.heap.get? x = some (seqObj "list" #[] e1)
  hx : H' x = none
  nk : ∃ (kA : Array Value) (e : Nat), kA.toList = ks ∧ s'.heap.get? kS = some (seqObj "list" kA e)
  hk : H' kS = none
section
variable {X : Cx} {pins : List (Addr × Obj)} {σ : L2.St} {H H' : Hp} {s s' : Shared} {x kS : Addr} {e1 : Nat} {ks : List Value} {Q : Value → Shared → Prop}
theorem Mid.inv (M : Mid X H s x kS e1 H' ks s') (I : Inv X pins σ H s) : Inv X pins σ H' s' := I.call' (ch := []) M.os M.un M.hok M.bare fun _ z => nomatch z
theorem frs_old (I : Inv X pins σ H s) {b : Addr} (hb : b ∈ frs X.stack) : b < s.heap.objs.size := by
  obtain ⟨_, o, ho, _⟩ := Heap.FunFrames.mem I.stack hb
  exact Heap.lt_size ho
/-- a call of the key -/
theorem Mid.call (M : Mid X H s x kS e1 H' ks s') (I : Inv X pins σ H s) (hx : s.heap.objs.size ≤ x) (hk : s.heap.objs.size ≤ kS) {H'' : Hp} {s'' : Shared} (os : s''.os = s'.os) (bare : AllBare s''.gens) (un : Un (frs X.stack) [] H' H'' s'.heap s''.heap) (hok : HOk X.prog X.w H'' s''.heap) : Mid X H s x kS e1 H'' ks s'' := by
  have nf : ∀ {b : Addr}, s.heap.objs.size ≤ b → b ∉ frs X.stack := fun hb z => absurd (frs_old I z) (Nat.not_lt.mpr hb)
  obtain ⟨kA, e, h1, h2⟩ := M.nk
  exact ⟨os.trans M.os, bare, M.un.trans un, hok, un.keep _ _ M.nx M.hx (nf hx) (by simp), un.free _ _ M.nx M.hx (by simp), ⟨kA, e, h1, un.keep _ _ h2 M.hk (nf hk) (by simp)⟩, un.free _ _ h2 M.hk (by simp)⟩
/-- what is no one's is written -/
theorem hok_other {P : Program} {w : World} {h : Heap} (ok : HOk P w H h) {b : Addr} (hb : H b = none) (f : Obj → Obj) : HOk P w H (h.update b f) := fun a o e =>
  (ok a o e).stay (fun c u hc q => by
    have : c ≠ b := fun z => by
      subst z
      rcases hc with rfl | hc
      · rw [hb] at e; cases e
      · rw [hb] at hc; cases hc
    exact (Heap.get?_update_ne _ _ _ _ this).trans q) (fun _ q => q) fun _ _ q => q
/-- a key is noted -/
theorem Mid.note (M : Mid X H s x kS e1 H' ks s') (hk : s.heap.objs.size ≤ kS) (hne : kS ≠ x) (k : Value) : Mid X H s x kS e1 H' (ks ++ [k]) { s' with heap := s'.heap.update kS (Obj.mapSeq (·.push k)) } := by
  obtain ⟨kA, e, h1, h2⟩ := M.nk
  have old : ∀ b o, s.heap.get? b = some o → (s'.heap.update kS (Obj.mapSeq (·.push k))).get? b = s'.heap.get? b := fun b o q => Heap.get?_update_ne _ _ _ _ fun z => by
    subst z
    exact absurd (Heap.lt_size q) (Nat.not_lt.mpr hk)
  refine ⟨M.os, M.bare, ⟨fun b o q n hb hx => (old b o q).trans (M.un.keep b o q n hb hx), fun b o q n hb hx => ?_, M.un.free, fun b o q hx => ?_, M.un.tups, M.un.frzs, M.un.tbls⟩, hok_other M.hok M.hk _, (Heap.get?_update_ne _ _ _ _ hne.symm).trans M.nx, M.hx, ⟨kA.push k, _, by simp [h1], get?_update_seq h2 (·.push k)⟩, M.hk⟩
  · obtain ⟨sl, q2⟩ := M.un.slot b o q n hb hx
    exact ⟨sl, (old b o q).trans q2⟩
  · obtain ⟨o', q2⟩ := M.un.there b o q hx
    exact ⟨o', (old b o q).trans q2⟩
/-- the keys are told, then the list is sorted -/
theorem key_run (I : Inv X pins σ H s) {q : Addr} {vs : List Value} {l : Addr} (hl : s.heap.IsList l vs.toArray) (hz : vs.length ≤ sizeLine) {J : Nat → Hp → List Value → Prop} (J0 : J 0 H [])
    (turn : ∀ (i : Nat) (u : Value), vs[i]? = some u → ∀ (H' : Hp) (ks : List Value) (s' : Shared), Inv X pins σ H' s' → J i H' ks → wpAny (model X.prog X.w) X.A.in1.in1 (PySem.call (.ref q) [u])
      (fun k s'' => ∃ H'', s''.os = s'.os ∧ AllBare s''.gens ∧ Un (frs X.stack) [] H' H'' s'.heap s''.heap ∧ HOk X.prog X.w H'' s''.heap ∧ J (i + 1) H'' (ks ++ [k])) (fun _ _ => False) s')
    (ends : ∀ (H' : Hp) (ks : List Value) (s' : Shared), Inv X pins σ H' s' → J vs.length H' ks → ks.length = vs.length ∧ ∃ κ : PyProof.Rows.KeyKind, PySem.W.SortsAt X.prog X.w X.A.in1.in1 s' κ ks ∧
      ∀ (s'' : Shared) (x : Addr) (c : Nat), (∀ o : HO, ObjOk X.prog X.w (upd H' x o) s''.heap x o → Inv X pins σ (upd H' x o) s'') → H' x = none → s.heap.get? x = none → s''.heap.get? x = some (seqObj "list" (PySem.W.sortVals κ false ks vs).toArray c) → Q (.ref x) s'')
    {E : Value → Shared → Prop} : wpAny (model X.prog X.w) X.A (PySem.call (.builtin "sorted") [.ref l] [(Str.ofString "key", .ref q)]) Q E s := by
  refine PySem.W.sorted_of_sort hl hz (ksk_s1 _ _) (fun _ => ksk_l1 _ _) fun E' => ?_
  rw [ksk_t1]
  generalize hxx : s.heap.objs.size + 1 = x
  have hxs : s.heap.objs.size ≤ x := by rw [← hxx]; exact Nat.le_succ _
  have hxn : s.heap.get? x = none := Heap.get?_none_of_le hxs
  have ho : (PySem.W.copyHeap s.heap vs).get? x = some (seqObj "list" vs.toArray 0) := by rw [← hxx]; exact PySem.W.copyHeap_at s.heap vs
  have hcs : (PySem.W.copyHeap s.heap vs).objs.size = s.heap.objs.size + 2 := by
    unfold PySem.W.copyHeap
    rw [size_push', Heap.size_update, size_push']
  obtain ⟨e1, ho1⟩ : ∃ e1, ((PySem.W.copyHeap s.heap vs).update x (Obj.mapSeq fun _ => (#[] : Array Value))).get? x = some (seqObj "list" #[] e1) := ⟨_, get?_update_seq ho fun _ => #[]⟩
  unfold ksk_tree
  refine wpAny_bind (listItems_at ho rfl ?_)
  refine wpAny_bind (listUpdate_at ho rfl ?_ (by rw [List.size_toArray]; exact hz) (Nat.zero_le _))
  refine wpAny_bind (seqEpoch_at ho1 rfl ?_)
  refine wpAny_bind (wpAny_newTuple ?_ (by show vs.length ≤ _; exact hz))
  refine wpAny_bind (wpAny_newList ?_ (Nat.zero_le _))
  refine wpAny_holding ?_
  have hks : (((PySem.W.copyHeap s.heap vs).update x (Obj.mapSeq fun _ => (#[] : Array Value))).push (seqObj "tuple" vs.toArray 0)).objs.size = s.heap.objs.size + 3 := by rw [size_push', Heap.size_update, hcs]
  show wpAny (model X.prog X.w) X.A.in1.in1 (ksk_rest x (.ref q) false vs.toArray e1 (.ref (((PySem.W.copyHeap s.heap vs).update x (Obj.mapSeq fun _ => (#[] : Array Value))).push (seqObj "tuple" vs.toArray 0)).objs.size)) _ _ { s with heap := (((PySem.W.copyHeap s.heap vs).update x (Obj.mapSeq fun _ => (#[] : Array Value))).push (seqObj "tuple" vs.toArray 0)).push (seqObj "list" #[] 0) }
  rw [hks]
  have hkk : s.heap.objs.size ≤ s.heap.objs.size + 3 := Nat.le_add_right _ _
  have hne : s.heap.objs.size + 3 ≠ x := by rw [← hxx]; omega
  have hkn : s.heap.get? (s.heap.objs.size + 3) = none := Heap.get?_none_of_le hkk
  have kept : ∀ b o, s.heap.get? b = some o → ((((PySem.W.copyHeap s.heap vs).update x (Obj.mapSeq fun _ => (#[] : Array Value))).push (seqObj "tuple" vs.toArray 0)).push (seqObj "list" #[] 0)).get? b = some o := fun b o e =>
    PySem.W.sortingHeap_old (vs := vs) (fun z => by subst z; rw [hxn] at e; cases e) (PySem.W.copyHeap_old e)
  have M0 : Mid X H s x (s.heap.objs.size + 3) e1 H [] { s with heap := (((PySem.W.copyHeap s.heap vs).update x (Obj.mapSeq fun _ => (#[] : Array Value))).push (seqObj "tuple" vs.toArray 0)).push (seqObj "list" #[] 0) } := by
    refine ⟨rfl, I.bare, Un.kept kept, I.hok.kept kept, Heap.get?_push_of_some _ (Heap.get?_push_of_some _ ho1), I.hok.fresh hxs, ⟨#[], 0, rfl, ?_⟩, I.hok.fresh hkk⟩
    rw [← hks]
    exact Heap.get?_push_size _ rfl
  generalize s.heap.objs.size + 3 = kS at hkk hne hkn M0
  generalize ({ s with heap := (((PySem.W.copyHeap s.heap vs).update x (Obj.mapSeq fun _ => (#[] : Array Value))).push (seqObj "tuple" vs.toArray 0)).push (seqObj "list" #[] 0) } : Shared) = s1 at M0
  unfold ksk_rest
  refine wpAny_bind (wpAny_rule ?_)
  first
    | rw [List.forIn_toArray]
    | (rw [← Array.forIn_toList]; simp only [List.toList_toArray])
    | rw [← Array.forIn_toList]
  refine wpAny_bind (ksk_fold (fun i s' => ∃ H' ks, ks.length = i ∧ Mid X H s x kS e1 H' ks s' ∧ J i H' ks) vs 0 s1 ⟨H, [], rfl, M0, J0⟩ ?step ?done)
  case step =>
    rintro j u s' hu ⟨H', ks, hlen, M, hJ⟩
    simp only [Nat.zero_add] at hlen hJ ⊢
    refine wpAny_bind (wpAny_attempt (wpAny_mono (turn j u hu H' ks s' (M.inv I) hJ) (fun v s'' he => ?_) fun _ _ hF => hF.elim))
    obtain ⟨H'', o, b, un, ok, hJ'⟩ := he
    have M2 := M.call I hxs hkk o b un ok
    obtain ⟨kA, e, h1, h2⟩ := M2.nk
    have hj : j < vs.length := (List.getElem?_eq_some_iff.mp hu).1
    have hsz : kA.size ≤ sizeLine := by
      have : kA.size = ks.length := by rw [← h1, Array.length_toList]
      omega
    try dsimp only
    refine wpAny_bind (listUpdate_at h2 rfl ?_ hsz (Nat.le_trans (Nat.le_of_eq (Array.size_push ..)) (Nat.succ_le_succ hsz)))
    exact wpAny_pure ⟨rfl, H'', ks ++ [v], by rw [List.length_append, List.length_singleton]; omega, M2.note hkk hne v, hJ'⟩
  case done =>
    rintro s' ⟨H', ks, hlen, M, hJ⟩
    rw [Nat.zero_add] at hlen hJ
    obtain ⟨hl2, κ, S, fin⟩ := ends H' ks s' (M.inv I) hJ
    obtain ⟨kA, e, h1, h2⟩ := M.nk
    subst h1
    try dsimp only
    refine wpAny_bind (listItems_at h2 rfl ?_)
    let Hq : Hp := fun b => if b = kS then some (.own 0) else none
    have hq : ∀ {b : Addr}, b ≠ kS → Hq b = none := fun hb => if_neg hb
    have hin : (hidT s'.heap Hq).get? kS = none := by
      cases q : (hidT s'.heap Hq).get? kS with
      | none => rfl
      | some o =>
        have := (of_hidT q).2
        rw [show Hq kS = some (.own 0) from if_pos rfl] at this
        cases this
    refine PySem.W.keyH_end (κ := κ) (h₁ := hidT s'.heap Hq) (fun b o _ e => (of_hidT e).1) hin h2 M.nx hne S (by rw [← hl2, Array.length_toList]) hz fun h' tk c k3 n3 => ⟨rfl, fin { s' with heap := h', toks := tk } x c ?_ M.hx hxn n3⟩
    have old : ∀ b o, s.heap.get? b = some o → b ≠ kS ∧ b ≠ x := fun b o e => ⟨fun z => (by subst z; rw [hkn] at e; cases e), fun z => (by subst z; rw [hxn] at e; cases e)⟩
    have go : ∀ b o, b ≠ kS → b ≠ x → s'.heap.get? b = some o → h'.get? b = some o := fun b o h1 h2 e => k3 b o h2 (hidT_get e (hq h1))
    have hokF : HOk X.prog X.w H' h' := fun b o e => (M.hok b o e).stay (fun c u hc e2 => go c u (fun z => by
      subst z
      rcases hc with rfl | hc
      · rw [M.hk] at e; cases e
      · rw [M.hk] at hc; cases hc) (fun z => by
      subst z
      rcases hc with rfl | hc
      · rw [M.hx] at e; cases e
      · rw [M.hx] at hc; cases hc) e2) (fun _ q => q) fun _ _ q => q
    intro ob hob
    have up : ∀ {b : Addr} {o : HO}, H' b = some o → upd H' x ob b = some o := fun {b o} e => (upd_ne (fun z => by subst z; rw [M.hx] at e; cases e)).trans e
    refine I.call' (ch := []) (s' := { s' with heap := h', toks := tk }) M.os ⟨fun b o e n hb hx => ?_, fun b o e n hb hx => ?_, fun b o e n hx => (upd_ne (old b o e).2).trans (M.un.free b o e n hx), fun b o e hx => ?_, fun b xs e => up (M.un.tups b xs e), fun b o u e => up (M.un.frzs b o u e), fun b p e => ?_⟩ (fun b o e => ?_) M.bare fun _ z => nomatch z
    · exact go b o (old b o e).1 (old b o e).2 (M.un.keep b o e n hb hx)
    · obtain ⟨sl, q2⟩ := M.un.slot b o e n hb hx
      exact ⟨sl, go b _ (old b o e).1 (old b o e).2 q2⟩
    · obtain ⟨o', q2⟩ := M.un.there b o e hx
      exact ⟨o', go b o' (old b o e).1 (old b o e).2 q2⟩
    · obtain ⟨more, q2⟩ := M.un.tbls b p e
      exact ⟨more, up q2⟩
    · by_cases hb : b = x
      · subst hb
        rw [upd_same] at e
        cases e
        exact hob
      · rw [upd_ne hb] at e
        exact (hokF b o e).stay (fun _ _ _ q => q) (fun c q => up q) fun c xs q => up q
end
end Fm
set_option Elab.async false
set_option linter.all false
set_option maxRecDepth 100000
namespace Fm
open PySem L2 PySem.Spec PyProof.Rows
open PySem.W (KatLex KatTups kat_lt kat_cons kat_nil kat_yes kat_no kat_one kat_kind)
/-! ### keys that are tuples -/
mutual
def plD : D → Bool
  | .int _ => true
  | .str _ => true
  | .bl _ => true
  | .non => true
  | .tup ds => plDs ds
  | _ => false
def plDs : List D → Bool
  | [] => true
  | d :: r => plD d && plDs r
end
section
variable {K : PySem.W.Frag} {F : Hp}
mutual
theorem rep_uniq : ∀ {d e : D} {v : V}, plD d = true → plD e = true → Rep K F d v → Rep K F e v → d = e
  | .int i, e, v, _, he, h, h' => by
    cases (show v = .int i from h)
    cases e with
    | int j => cases (show V.int i = .int j from h'); rfl
    | str j => cases (show V.int i = .str j from h')
    | bl j => cases (show V.int i = .bl j from h')
    | non => cases (show V.int i = .non from h')
    | tup ds => obtain ⟨_, _, z, _⟩ := h'; cases z
    | lst _ => cases he
    | dct _ => cases he
    | kl _ => cases he
  | .str i, e, v, _, he, h, h' => by
    cases (show v = .str i from h)
    cases e with
    | int j => cases (show V.str i = .int j from h')
    | str j => cases (show V.str i = .str j from h'); rfl
    | bl j => cases (show V.str i = .bl j from h')
    | non => cases (show V.str i = .non from h')
    | tup ds => obtain ⟨_, _, z, _⟩ := h'; cases z
    | lst _ => cases he
    | dct _ => cases he
    | kl _ => cases he
  | .bl i, e, v, _, he, h, h' => by
    cases (show v = .bl i from h)
    cases e with
    | int j => cases (show V.bl i = .int j from h')
    | str j => cases (show V.bl i = .str j from h')
    | bl j => cases (show V.bl i = .bl j from h'); rfl
    | non => cases (show V.bl i = .non from h')
    | tup ds => obtain ⟨_, _, z, _⟩ := h'; cases z
    | lst _ => cases he
    | dct _ => cases he
    | kl _ => cases he
  | .non, e, v, _, he, h, h' => by
    cases (show v = .non from h)
    cases e with
    | int j => cases (show V.non = .int j from h')
    | str j => cases (show V.non = .str j from h')
    | bl j => cases (show V.non = .bl j from h')
    | non => rfl
    | tup ds => obtain ⟨_, _, z, _⟩ := h'; cases z
    | lst _ => cases he
    | dct _ => cases he
    | kl _ => cases he
  | .tup ds, e, v, hd, he, h, h' => by
    obtain ⟨a, vs, rfl, h1, h2⟩ := h
    cases e with
    | int j => cases (show V.ref a = .int j from h')
    | str j => cases (show V.ref a = .str j from h')
    | bl j => cases (show V.ref a = .bl j from h')
    | non => cases (show V.ref a = .non from h')
    | tup es =>
      obtain ⟨a', ws, z, h3, h4⟩ := h'
      cases z
      rw [h1] at h3
      cases h3
      rw [reps_uniq (by simpa [plD] using hd) (by simpa [plD] using he) h2 h4]
    | lst _ => cases he
    | dct _ => cases he
    | kl _ => cases he
  | .lst _, _, _, hd, _, _, _ => by cases hd
  | .dct _, _, _, hd, _, _, _ => by cases hd
  | .kl _, _, _, hd, _, _, _ => by cases hd
theorem reps_uniq : ∀ {ds es : List D} {vs : List V}, plDs ds = true → plDs es = true → Reps K F ds vs → Reps K F es vs → ds = es
  | [], es, vs, _, _, h, h' => by
    cases (show vs = [] from h)
    cases es with
    | nil => rfl
    | cons e r => obtain ⟨_, _, z, _⟩ := h'; cases z
  | d :: ds, es, vs, hd, he, h, h' => by
    obtain ⟨v, r, rfl, h1, h2⟩ := h
    cases es with
    | nil => cases (show v :: r = [] from h')
    | cons e es =>
      obtain ⟨v', r', z, h3, h4⟩ := h'
      cases z
      rw [plDs, Bool.and_eq_true] at hd he
      rw [rep_uniq hd.1 he.1 h1 h3, reps_uniq hd.2 he.2 h2 h4]
end
end
def isTI : D → Bool
  | .tup (.int _ :: _) => true
  | _ => false
/-- how many keys are less -/
def cntK (ks : List D) (d : D) : Nat := (ks.filter fun e => decide (dlt 58 e d = some true)).length
def keyOk (ks : List D) : Bool := (ks.all fun d => plD d && isTI d) && ks.all fun d => ks.all fun e => decide (dlt 58 d e = some (decide (cntK ks d < cntK ks e)))
open Classical in
noncomputable def kdK (K : PySem.W.Frag) (F : Hp) (ks : List D) : PyProof.Rows.KeyKind where
  α := Nat
  blt a b := decide (a < b)
  irrefl a := decide_eq_false (Nat.lt_irrefl a)
  trans a b c h1 h2 := decide_eq_true (Nat.lt_trans (of_decide_eq_true h1) (of_decide_eq_true h2))
  negTrans a b c h := by
    have h := of_decide_eq_true h
    rcases Nat.lt_or_ge a b with q | q
    · exact .inl (decide_eq_true q)
    · exact .inr (decide_eq_true (by omega))
  total a b h1 h2 := by
    have h1 := of_decide_eq_false h1
    have h2 := of_decide_eq_false h2
    omega
  keyOf v := if h : ∃ d ∈ ks, ∃ x, Rep K F d x ∧ L2.RelV x v then some (cntK ks h.choose) else none
  dflt := (0 : Nat)
section
variable {K : PySem.W.Frag} {F : Hp} {ks : List D}
open Classical in
theorem kdK_at (ok : keyOk ks = true) {d : D} (hd : d ∈ ks) {x : V} {v : Value} (h : Rep K F d x) (r : L2.RelV x v) : (kdK K F ks).keyOf v = some (cntK ks d) := by
  unfold keyOk at ok
  rw [Bool.and_eq_true] at ok
  have pl : ∀ d ∈ ks, plD d = true := fun d hd => by
    have := List.all_eq_true.mp ok.1 d hd
    rw [Bool.and_eq_true] at this
    exact this.1
  have q : ∃ d ∈ ks, ∃ x, Rep K F d x ∧ L2.RelV x v := ⟨d, hd, x, h, r⟩
  show (if h : ∃ d ∈ ks, ∃ x, Rep K F d x ∧ L2.RelV x v then some (cntK ks h.choose) else none) = _
  rw [dif_pos q]
  obtain ⟨h1, y, h2, h3⟩ := q.choose_spec
  have e := L2.RelV.inj r h3
  subst e
  rw [rep_uniq (pl _ h1) (pl _ hd) h2 h]
open Classical in
theorem kdK_inv {v : Value} {n : Nat} (h : (kdK K F ks).keyOf v = some n) : ∃ d ∈ ks, ∃ x, Rep K F d x ∧ L2.RelV x v ∧ n = cntK ks d := by
  have h : (if h : ∃ d ∈ ks, ∃ x, Rep K F d x ∧ L2.RelV x v then some (cntK ks h.choose) else none) = some n := h
  split at h
  · rename_i q
    cases h
    obtain ⟨h1, y, h2, h3⟩ := q.choose_spec
    exact ⟨_, h1, y, h2, h3, rfl⟩
  · cases h
theorem keyOk_at (ok : keyOk ks = true) {d e : D} (hd : d ∈ ks) (he : e ∈ ks) : plD d = true ∧ isTI d = true ∧ dlt 58 d e = some (decide (cntK ks d < cntK ks e)) := by
  unfold keyOk at ok
  rw [Bool.and_eq_true] at ok
  have h1 := List.all_eq_true.mp ok.1 d hd
  rw [Bool.and_eq_true] at h1
  exact ⟨h1.1, h1.2, of_decide_eq_true (List.all_eq_true.mp (List.all_eq_true.mp ok.2 d hd) e he)⟩
end
section
variable {X : Cx} {pins : List (Addr × Obj)} {σ : L2.St} {H : Hp} {s : Shared}
/-- two tuples, item by item, as the sort compares them -/
theorem katlex_of (I : Inv X pins σ H s) {n : Nat} {A : Around} (hu : A.units + n < cLine) {Q : Bool → Shared → Prop} {r : Bool} (q : Q r s) : ∀ (xs ys : List D) (i : Nat) {vs ws : List V} {us zs : List Value}, ltLs (deq n) (dlt n) xs ys = some r → (i = 0 → ∀ a, xs.head? = some a → ∃ z, a = .int z) → (i = 0 → ∀ a, ys.head? = some a → ∃ z, a = .int z) →
    Reps X.K H xs vs → Reps X.K H ys ws → Vals vs us → Vals ws zs → KatLex X.prog X.w A true (decide (us.length < zs.length)) Q (us.zip zs) i s
  | [], ys, i, vs, ws, us, zs, h, _, _, hx, hy, r1, r2 => by
    cases h
    cases (show vs = [] from hx)
    cases r1
    have e : ys.length = zs.length := hy.len.trans r2.length
    rw [List.zip_nil_left]
    refine kat_nil ?_
    rw [show decide (([] : List Value).length < zs.length) = decide (0 < ys.length) by rw [e]; rfl]
    exact q
  | x :: xs, [], i, vs, ws, us, zs, h, _, _, hx, hy, r1, r2 => by
    cases h
    cases (show ws = [] from hy)
    cases r2
    rw [List.zip_nil_right]
    refine kat_nil ?_
    rw [show decide (us.length < ([] : List Value).length) = false from decide_eq_false (Nat.not_lt_zero _)]
    exact q
  | x :: xs, y :: ys, i, vs, ws, us, zs, h, hi1, hi2, hx, hy, r1, r2 => by
    obtain ⟨v, p, rfl, h1, h2⟩ := hx
    obtain ⟨v', p', rfl, h3, h4⟩ := hy
    cases r1 with
    | cons q1 t1 =>
      cases r2 with
      | cons q2 t2 =>
        rename_i u us z zs
        rw [List.zip_cons_cons]
        have hf : decide ((u :: us).length < (z :: zs).length) = decide (us.length < zs.length) := decide_eq_decide.mpr (by rw [List.length_cons, List.length_cons]; omega)
        rw [hf]
        unfold ltLs at h
        split at h
        · rename_i he
          exact kat_cons (deq_run I n A hu _ _ _ _ _ _ _ he h1 h3 q1 q2 _ _ (kat_yes (katlex_of I hu q xs ys (i + 1) h (fun z => by omega) (fun z => by omega) h2 h4 t1 t2)))
        · rename_i he
          refine kat_cons (deq_run I n A hu _ _ _ _ _ _ _ he h1 h3 q1 q2 _ _ (kat_no ?_))
          by_cases hi : i = 0
          · obtain ⟨a, rfl⟩ := hi1 hi x rfl
            obtain ⟨b, rfl⟩ := hi2 hi y rfl
            cases (show v = .int a from h1)
            cases (show v' = .int b from h3)
            obtain ⟨t, rfl⟩ := q1
            obtain ⟨t', rfl⟩ := q2
            have e : dlt n (.int a) (.int b) = some (decide (a < b)) := by cases n <;> rfl
            rw [e] at h
            cases h
            subst hi
            exact PyProof.Rows.oneLt_int q
          · have : (true && i == 0) = false := by simp [hi]
            rw [this]
            exact kat_one _ _ (dlt_run I n A hu _ _ _ _ _ _ _ h h1 h3 q1 q2 _ (PySem.W.BoolBack Q) q)
        · cases h
theorem lt_keys (I : Inv X pins σ H s) {A : Around} (hu : A.units + 58 < cLine) {ks : List D} (ok : keyOk ks = true) : PyProof.Rows.H.LtAt X.prog X.w A s (kdK X.K H ks) (tuples' true) := by
  intro E x y a b Q ha hb q
  obtain ⟨d, hd, v, h1, h2, rfl⟩ := kdK_inv ha
  obtain ⟨e, he, v', h3, h4, rfl⟩ := kdK_inv hb
  obtain ⟨_, t1, l⟩ := keyOk_at ok hd he
  obtain ⟨_, t2, _⟩ := keyOk_at ok he hd
  have q : Q (decide (cntK ks d < cntK ks e)) s := q
  cases d with
  | tup xs =>
    cases e with
    | tup ys =>
      obtain ⟨p, vs, rfl, k1, k2⟩ := h1
      obtain ⟨p', ws, rfl, k3, k4⟩ := h3
      cases h2
      cases h4
      obtain ⟨us, r1, o1, g1, c1, n1, d1⟩ := tuple_at I k1
      obtain ⟨zs, r2, o2, g2, c2, n2, d2⟩ := tuple_at I k3
      have hd1 : ∀ a, xs.head? = some a → ∃ z, a = .int z := fun a ha => by
        cases xs with
        | nil => cases ha
        | cons b r =>
          cases ha
          cases a with
          | int z => exact ⟨z, rfl⟩
          | _ => cases t1
      have hd2 : ∀ a, ys.head? = some a → ∃ z, a = .int z := fun a ha => by
        cases ys with
        | nil => cases ha
        | cons b r =>
          cases ha
          cases a with
          | int z => exact ⟨z, rfl⟩
          | _ => cases t2
      refine kat_lt g1 d1 g2 d2 ?_
      rw [show decide (us.toArray.size < zs.toArray.size) = decide (us.length < zs.length) by simp]
      exact katlex_of I (n := 57) (by omega) q xs ys 0 l (fun _ => hd1) (fun _ => hd2) k2 k4 r1 r2
    | _ => cases t2
  | _ => cases t1
theorem firsts (I : Inv X pins σ H s) : ∀ {ks : List D} {vs : List V} {us : List Value}, (∀ d ∈ ks, isTI d = true) → Reps X.K H ks vs → Vals vs us → ∃ fs, KatTups s.heap us fs ∧ fs.length = us.length ∧ ∀ f ∈ fs, ∃ i t, f = .int i t
  | [], vs, us, _, h, r => by
    cases (show vs = [] from h)
    cases r
    exact ⟨[], KatTups.nil, rfl, fun f hf => by cases hf⟩
  | d :: ks, vs, us, hk, h, r => by
    obtain ⟨v, p, rfl, h1, h2⟩ := h
    cases r with
    | cons r1 r2 =>
      obtain ⟨fs, q1, q2, q3⟩ := firsts I (fun d hd => hk d (List.mem_cons_of_mem _ hd)) h2 r2
      have t := hk d List.mem_cons_self
      cases d with
      | tup xs =>
        cases xs with
        | nil => cases t
        | cons b rr =>
          cases b with
          | int z =>
            obtain ⟨p, ws, rfl, k1, k2⟩ := h1
            cases r1
            obtain ⟨us', r3, o, g, c, n, dd⟩ := tuple_at I k1
            obtain ⟨v1, ws1, rfl, m1, m2⟩ := k2
            cases r3 with
            | cons r4 r5 =>
              cases (show v1 = .int z from m1)
              obtain ⟨tk, rfl⟩ := r4
              exact ⟨.int z tk :: fs, KatTups.cons (f := .int z tk) g c dd (by simp) q1, by rw [List.length_cons, List.length_cons, q2], fun f hf => by
                rcases List.mem_cons.mp hf with e | e
                · exact ⟨z, tk, e⟩
                · exact q3 f e⟩
          | _ => cases t
      | _ => cases t
theorem sorts_keys (I : Inv X pins σ H s) {A : Around} (hu : A.units + 58 < cLine) {ks : List D} (ok : keyOk ks = true) {vs : List V} {us : List Value} (h : Reps X.K H ks vs) (r : Vals vs us) : PySem.W.SortsAt X.prog X.w A s (kdK X.K H ks) us := by
  refine ⟨fun u hu => ?_, tuples' true, lt_keys I hu ok, fun h2 E Q q => ?_⟩
  · have : ∀ {ks' : List D} {vs : List V} {us : List Value}, (∀ d ∈ ks', d ∈ ks) → Reps X.K H ks' vs → Vals vs us → ∀ u ∈ us, ∃ d ∈ ks, ∃ x, Rep X.K H d x ∧ L2.RelV x u := by
      intro ks'
      induction ks' with
      | nil =>
        intro vs us _ h r u hu
        cases (show vs = [] from h)
        cases r
        cases hu
      | cons d ks' ih =>
        intro vs us hs h r u hu
        obtain ⟨v, p, rfl, h1, h2⟩ := h
        cases r with
        | cons r1 r2 =>
          rcases List.mem_cons.mp hu with e | e
          · subst e
            exact ⟨d, hs d List.mem_cons_self, v, h1, r1⟩
          · exact ih (fun d hd => hs d (List.mem_cons_of_mem _ hd)) h2 r2 u e
    obtain ⟨d, hd, x, h1, h2⟩ := this (fun _ z => z) h r u hu
    exact ⟨_, kdK_at ok hd h1 h2⟩
  · obtain ⟨fs, q1, q2, q3⟩ := firsts I (fun d hd => (keyOk_at ok hd hd).2.1) h r
    refine kat_kind (T := Value.type "int") q1 (by omega) (fun f hf => ?_) (beq_self_eq_true _) q
    obtain ⟨i, t, rfl⟩ := q3 f hf
    exact fun A Q E s _ q => wpAny_pure q
end
end Fm
set_option Elab.async false
set_option linter.all false
set_option maxRecDepth 100000
namespace Fm
open PySem L2 PySem.Spec PyProof.Rows
/-! ### what is sorted, by its keys -/
def srtD (ks xs : List D) : List D := ((ks.zip xs).mergeSort fun p q => !decide (cntK ks q.1 < cntK ks p.1)).map (·.2)
theorem srtD_perm {ks xs : List D} (h : ks.length = xs.length) : (srtD ks xs).Perm xs := by
  unfold srtD
  have h1 := (List.mergeSort_perm (ks.zip xs) fun p q => !decide (cntK ks q.1 < cntK ks p.1)).map (·.2)
  refine h1.trans ?_
  have : (ks.zip xs).map (·.2) = xs := List.map_snd_zip (by omega)
  rw [this]
/-- a key's value, an item's value, the key, the item, the item as it is held -/
abbrev Rw := Value × Value × D × D × V
section
variable {K : PySem.W.Frag} {F G : Hp}
theorem rows_of : ∀ {ks ds : List D} {kv vs : List V} {kus us : List Value}, Reps K F ks kv → Vals kv kus → Reps K G ds vs → Vals vs us → ks.length = ds.length →
    ∃ L : List Rw, L.map (·.1) = kus ∧ L.map (·.2.1) = us ∧ L.map (·.2.2.1) = ks ∧ L.map (·.2.2.2.1) = ds ∧ ∀ r ∈ L, (∃ x, Rep K F r.2.2.1 x ∧ L2.RelV x r.1) ∧ Rep K G r.2.2.2.1 r.2.2.2.2 ∧ L2.RelV r.2.2.2.2 r.2.1
  | [], [], kv, vs, kus, us, h1, r1, h2, r2, _ => by
    cases (show kv = [] from h1)
    cases (show vs = [] from h2)
    cases r1
    cases r2
    exact ⟨[], rfl, rfl, rfl, rfl, fun r hr => by cases hr⟩
  | k :: ks, d :: ds, kv, vs, kus, us, h1, r1, h2, r2, hl => by
    obtain ⟨a, kv', rfl, q1, q2⟩ := h1
    obtain ⟨b, vs', rfl, q3, q4⟩ := h2
    cases r1 with
    | cons c1 c2 =>
      cases r2 with
      | cons c3 c4 =>
        obtain ⟨L, l1, l2, l3, l4, l5⟩ := rows_of q2 c2 q4 c4 (by simpa using hl)
        rename_i u1 us1 u2 us2
        refine ⟨(u1, u2, k, d, b) :: L, by simp [l1], by simp [l2], by simp [l3], by simp [l4], fun r hr => ?_⟩
        rcases List.mem_cons.mp hr with e | e
        · subst e
          exact ⟨⟨a, q1, c1⟩, q3, c3⟩
        · exact l5 r e
  | [], _ :: _, _, _, _, _, _, _, _, _, hl => by cases hl
  | _ :: _, [], _, _, _, _, _, _, _, _, hl => by cases hl
theorem paired_map {α β γ : Type} {R : β → γ → Prop} (f : α → β) (g : α → γ) : ∀ {l : List α}, (∀ a ∈ l, R (f a) (g a)) → Paired R (l.map f) (l.map g)
  | [], _ => .nil
  | a :: l, h => .cons (h a List.mem_cons_self) (paired_map f g fun x hx => h x (List.mem_cons_of_mem _ hx))
theorem reps_map {α : Type} (f : α → D) (g : α → V) : ∀ {l : List α}, (∀ a ∈ l, Rep K G (f a) (g a)) → Reps K G (l.map f) (l.map g)
  | [], _ => rfl
  | a :: l, h => ⟨_, _, rfl, h a List.mem_cons_self, reps_map f g fun x hx => h x (List.mem_cons_of_mem _ hx)⟩
/-- what the sort gives stands for what srtD gives -/
theorem sorted_reps {ks ds : List D} {kv vs : List V} {kus us : List Value} (ok : keyOk ks = true) (h1 : Reps K F ks kv) (r1 : Vals kv kus) (h2 : Reps K G ds vs) (r2 : Vals vs us) (hl : ks.length = ds.length) :
    ∃ out : List V, Vals out (PySem.W.sortVals (kdK K F ks) false kus us) ∧ Reps K G (srtD ks ds) out := by
  obtain ⟨L, l1, l2, l3, l4, l5⟩ := rows_of h1 r1 h2 r2 hl
  let le : Rw → Rw → Bool := fun p q => !decide (cntK ks q.2.2.1 < cntK ks p.2.2.1)
  have hk : ∀ r ∈ L, PySem.W.keyD (kdK K F ks) r.1 = cntK ks r.2.2.1 := fun r hr => by
    obtain ⟨⟨x, q1, q2⟩, _⟩ := l5 r hr
    exact PySem.W.keyD_some (kdK_at ok (by rw [← l3]; exact List.mem_map.mpr ⟨r, hr, rfl⟩) q1 q2)
  have e1 : PySem.W.sortVals (kdK K F ks) false kus us = (L.mergeSort le).map (·.2.1) := by
    unfold PySem.W.sortVals
    have hz : kus.zip us = L.map fun r => (r.1, r.2.1) := by
      rw [← l1, ← l2, List.zip_map']
    rw [hz, ← List.map_mergeSort (r := le), List.map_map]
    · rfl
    · intro a ha b hb
      show (!decide (cntK ks b.2.2.1 < cntK ks a.2.2.1)) = !(kdK K F ks).blt (PySem.W.keyD (kdK K F ks) b.1) (PySem.W.keyD (kdK K F ks) a.1)
      rw [hk a ha, hk b hb]
      rfl
  have e2 : srtD ks ds = (L.mergeSort le).map (·.2.2.2.1) := by
    unfold srtD
    have hz : ks.zip ds = L.map fun r => (r.2.2.1, r.2.2.2.1) := by
      have : (L.map fun r => r.2.2.1).zip (L.map fun r => r.2.2.2.1) = L.map fun r => (r.2.2.1, r.2.2.2.1) := List.zip_map'
      rw [l3, l4] at this
      exact this
    rw [hz, ← List.map_mergeSort (r := le), List.map_map]
    · rfl
    · intro a _ b _
      rfl
  have hm : ∀ r ∈ L.mergeSort le, r ∈ L := fun r hr => (List.mergeSort_perm L le).mem_iff.mp hr
  refine ⟨(L.mergeSort le).map (·.2.2.2.2), ?_, ?_⟩
  · rw [e1]
    exact paired_map _ _ fun r hr => (l5 r (hm r hr)).2.2
  · rw [e2]
    exact reps_map _ _ fun r hr => (l5 r (hm r hr)).2.1
end
end Fm
set_option Elab.async false
set_option linter.all false
set_option maxRecDepth 100000
namespace Fm
open PySem L2 PySem.Spec PyProof.Rows
/-! ### sorted(xs, key=f) -/
open Classical in
noncomputable def kysD (fn : FN) (μ : Mu) : List D → Option (List D)
  | [] => some []
  | d :: r => match kysD fn μ r with
    | some ks => if h : ∃ k, fn [.d d] μ = some (.ok (.d k) μ) then some (h.choose :: ks) else none
    | none => none
open Classical in
theorem kysD_cons {fn : FN} {μ : Mu} {d : D} {r l : List D} (h : kysD fn μ (d :: r) = some l) : ∃ k ks, l = k :: ks ∧ fn [.d d] μ = some (.ok (.d k) μ) ∧ kysD fn μ r = some ks := by
  unfold kysD at h
  split at h
  · rename_i ks hk
    split at h
    · rename_i q
      cases h
      exact ⟨_, ks, rfl, q.choose_spec, hk⟩
    · cases h
  · cases h
open Classical in
theorem kysD_of {fn : FN} {μ : Mu} {f : D → D} : ∀ {ds : List D}, (∀ d ∈ ds, fn [.d d] μ = some (.ok (.d (f d)) μ)) → kysD fn μ ds = some (ds.map f)
  | [], _ => rfl
  | d :: r, h => by
    have ih := kysD_of (ds := r) fun x hx => h x (List.mem_cons_of_mem _ hx)
    have h0 := h d List.mem_cons_self
    have q : ∃ k, fn [.d d] μ = some (.ok (.d k) μ) := ⟨_, h0⟩
    unfold kysD
    rw [ih]
    show (if h : ∃ k, fn [.d d] μ = some (.ok (.d k) μ) then some (h.choose :: r.map f) else none) = _
    rw [dif_pos q]
    have e := h0.symm.trans q.choose_spec
    injection e with e
    injection e with e
    injection e with e
    rw [← e]
    rfl
theorem kysD_len {fn : FN} {μ : Mu} : ∀ {ds ks : List D}, kysD fn μ ds = some ks → ks.length = ds.length
  | [], ks, h => by cases h; rfl
  | d :: r, l, h => by
    obtain ⟨k, ks, rfl, _, h2⟩ := kysD_cons h
    rw [List.length_cons, List.length_cons, kysD_len h2]
theorem kysD_at {fn : FN} {μ : Mu} : ∀ {ds ks : List D} {i : Nat} {d : D}, kysD fn μ ds = some ks → ds[i]? = some d → ∃ k, ks[i]? = some k ∧ fn [.d d] μ = some (.ok (.d k) μ)
  | [], ks, i, d, _, h => by cases h
  | d :: r, l, i, e, h, hi => by
    obtain ⟨k, ks, rfl, h1, h2⟩ := kysD_cons h
    cases i with
    | zero => cases hi; exact ⟨k, rfl, h1⟩
    | succ i => exact kysD_at (ds := r) (ks := ks) (i := i) h2 (by simpa using hi)
noncomputable def sortK (fn : FN) (x : T) (μ : Mu) : Option (Rs Cell) := match rd μ x with
  | .d (.lst ds) => match kysD fn μ ds with
    | some ks => if keyOk ks = true ∧ ds.length ≤ SL then some (.ok (.lst ((srtD ks ds).map T.d)) μ) else none
    | none => none
  | _ => none
noncomputable def cSortK (fn : FN) (fe : EF) : CF := fun ρ => mbind (fe ρ) (sortK fn)
def rSortK (K : PySem.W.Frag) (fn : FN) (f : Addr) : List V → List V → Hp → VK → Prop := fun vs zs H Q => zs = [.ref f] ∧ ∃ (a : Addr) (w : Wd) (ds ks : List D), vs = [.ref a] ∧ w.H = H ∧ StOk K w ∧ w.t K (.d (.lst ds)) (.ref a) ∧ kysD fn w.μ ds = some ks ∧ keyOk ks = true ∧ ds.length ≤ SL ∧
  ∀ (p : Addr) (w' : Wd) (out : List V), Ext w w' → StOk K w' → w'.μ = w.μ → w'.H p = none → Reps K w'.F (srtD ks ds) out → Q (.ref p) (upd w'.H p (.lst out))
section
variable {X : Cx} {E : XK} {K : PySem.W.Frag}
theorem reps_app {F : Hp} : ∀ {xs ys : List D} {vs ws : List V}, Reps K F xs vs → Reps K F ys ws → Reps K F (xs ++ ys) (vs ++ ws)
  | [], ys, vs, ws, h, h' => by cases (show vs = [] from h); exact h'
  | x :: xs, ys, vs, ws, ⟨v, r, e, h1, h2⟩, h' => by subst e; exact ⟨v, r ++ ws, rfl, h1, reps_app h2 h'⟩
theorem reps_get {F : Hp} : ∀ {xs : List D} {vs : List V} {i : Nat} {v : V}, Reps K F xs vs → vs[i]? = some v → ∃ d, xs[i]? = some d ∧ Rep K F d v
  | [], vs, i, v, h, hi => by cases (show vs = [] from h); cases hi
  | x :: xs, vs, i, v, ⟨u, r, e, h1, h2⟩, hi => by
    subst e
    cases i with
    | zero => cases hi; exact ⟨x, rfl, h1⟩
    | succ i => exact reps_get (xs := xs) (vs := r) (i := i) h2 (by simpa using hi)
theorem call_sortK {k : Nat} {fn : FN} {f : Addr} {fd : FuncData} {ps : List Str} (hr : Room (k + 2) X.A) (F : FnOk X.prog X.w X.K X.mg X.base (L2.CX X.prog X.w) k f fd ps (spM X.K 1 fn)) (hb : Binds X.K fd ps []) (hl : ps.length = 1) : CallRK X (.builtin "sorted") [Str.ofString "key"] (rSortK X.K fn f) := by
  intro pins s σ H vs zs us ws Q I r1 r2 h
  obtain ⟨rfl, a, w, ds, ks, rfl, rfl, sok, ⟨a', iv, e, hF, hD⟩, hk, ok, hdl, q⟩ := h
  cases e
  obtain rfl := Vals.ref1 r1
  obtain rfl := Vals.ref1 r2
  obtain ⟨its, rI, hI⟩ := list_at I (sok.sub _ _ hF)
  have hlen : its.length = ds.length := by rw [← rI.length, ← pd_len (d_paired hD), List.length_map]
  have hkl := kysD_len hk
  have hu : X.A.in1.in1.units + 58 < cLine := by
    have := hr.un
    show X.A.units + 1 + 1 + 58 < cLine
    omega
  refine key_run I hI (by rw [hlen]; exact hdl) (J := fun i H' kl => ∃ w' : Wd, w'.H = H' ∧ Ext w w' ∧ StOk X.K w' ∧ w'.μ = w.μ ∧ ∃ kv, Vals kv kl ∧ Reps X.K w'.F (ks.take i) kv) ⟨w, rfl, Ext.refl _, sok, rfl, [], .nil, rfl⟩ (fun i u hui H' kl s' I' hJ => ?_) (fun H' kl s' I' hJ => ?_)
  · obtain ⟨w', rfl, e1, s1, hμ, kv, rv, hr'⟩ := hJ
    obtain ⟨v, hv, rel⟩ := pd_get' rI hui
    obtain ⟨d, hd, hrep⟩ := reps_get hD hv
    obtain ⟨kk, hki, hfn⟩ := kysD_at hk hd
    refine wpAny_call (codeAny_mono (F.run X.A.in1.in1 X.stack s' w'.H ⟨[u], []⟩ [u] [v] (fun v' H'' => ∃ w2 : Wd, w2.H = H'' ∧ Ext w' w2 ∧ StOk X.K w2 ∧ w2.μ = w'.μ ∧ Rep X.K w2.F kk v') (fun _ _ _ => False) hr.in1.in1 I'.env0.in1.in1 ?_ (.cons rel .nil) ⟨rfl, w', [.d d], .ok (.d kk) w'.μ, rfl, s1, .cons (hrep.mono e1.sub) .nil, by rw [hμ]; exact hfn, fun x w2 b z e2 s2 hR => ?_, fun _ _ _ _ z => by cases z⟩) fun r' s'' hq => ?_)
    · have := hb s' [u] I'.kIn (by rw [List.append_nil, hl]; rfl)
      rw [List.append_nil] at this
      exact this
    · obtain ⟨rfl, hm⟩ := Rs.ok.inj z
      exact ⟨w2, rfl, e2, s2, hm.symm, hR⟩
    · match r', hq with
      | .error e', hq =>
        obtain ⟨_, _, _, _, _, _, _, _, _, _, _, _, z⟩ := hq
        exact z.elim
      | .ok .next, hq => exact hq.elim
      | .ok .brk, hq => exact hq.elim
      | .ok .cont, hq => exact hq.elim
      | .ok (.ret u'), ⟨v', H'', os, bare, un, hok, rel', w2, e3, e2, s2, hm, hkk⟩ =>
        refine ⟨H'', os, bare, un, hok, w2, e3, e1.trans e2, s2, hm.trans hμ, kv ++ [v'], pd_app rv (.cons rel' .nil), ?_⟩
        rw [List.take_add_one, hki]
        exact reps_app (hr'.mono e2.sub) ⟨v', [], rfl, hkk, rfl⟩
  · obtain ⟨w', rfl, e1, s1, hμ, kv, rv, hr'⟩ := hJ
    rw [List.take_of_length_le (by omega)] at hr'
    have hD' : Reps X.K w'.F ds iv := hD.mono e1.sub
    obtain ⟨out, ho, hos⟩ := sorted_reps (F := w'.H) ok (hr'.mono s1.sub) rv hD' rI hkl
    refine ⟨?_, kdK X.K w'.H ks, sorts_keys I' hu ok (hr'.mono s1.sub) rv, fun s'' x c track hxn hsn hget => ⟨.ref x, upd w'.H x (.lst out), track (.lst out) ⟨?_, _, c, ho, hget⟩, rfl, q x w' out e1 s1 hμ hxn hos⟩⟩
    · rw [← rv.length, ← pd_len (d_paired hr'), List.length_map, hkl, hlen]
    · rw [← pd_len (d_paired hos), List.length_map, (srtD_perm hkl).length_eq]
      exact hdl
theorem pc_sortK {k : Nat} {g : Str} {e : Expr} {p gp kp pos : Pos} {fn : FN} {te : TE} {fe : EF} (B : Bd X E (k + 2)) (F : Fn X.prog X.w K X.mg X.base k g 1 fn) (he : PD K X E e te fe) (hm : X.mg "sorted" = none) (hg : Gl X "sorted" := by rfl) (hgg : Gl X g := by rfl) (hK : X.K = K := by rfl)
    (hdb : (g == ("__debug__" : Str)) = false := by decide)
    (hst : backTo pos (starEach (e :: []) X.env) = (false, eval e X.env) :: backTo pos (starEach [] X.env) := by rfl) (hpl : (backTo pos (starEach (e :: []) X.env)).any (·.1) = false := by rfl)
    (hall : (backToKw pos (keywordEach [⟨some "key", .Name g gp, kp⟩] X.env)).all (·.1.isSome) = true := by rfl) (hnone : (backToKw pos (keywordEach [⟨some "key", .Name g gp, kp⟩] X.env)).any (·.1.isNone) = false := by rfl) (hks : (backToKw pos (keywordEach [⟨some "key", .Name g gp, kp⟩] X.env)).filterMap (·.1) = [Str.ofString "key"] := by rfl) 
    (hst2 : starEach (e :: []) X.env = (false, eval e X.env) :: starEach [] X.env := by rfl) :
    ∃ t, PCr K X E (.Call (.Name "sorted" p) [e] [⟨some "key", .Name g gp, kp⟩] pos) t (cSortK fn fe) := by
  subst hK
  obtain ⟨f, fd, ps, h1, h2, h3, h4, h5⟩ := F.ex
  refine ⟨tCKw (rSortK X.K fn f) (tCons te tNil) (tCons (tC (.ref f)) tNil), pe_callBK (call_sortK B.room h1 h4 h5) hg hm (by decide +kernel) (pa_cons he.pe pa_nil hst2) (pk_cons (pe_glob hgg h2 rfl hdb) pk_nil) (by decide) (by decide) hst hpl hall hnone hks, fun w σ ρ ev => ?_⟩
  show At X.K E w (fun Q => te σ w.H fun v H1 => rSortK X.K fn f [v] [.ref f] H1 Q) _ _
  refine At.bind rc_m (he.ok w σ ρ ev) fun x v w1 e1 s1 hx => ?_
  intro s r er Q q1 q2
  have er : sortK fn x w1.μ = some r := er
  unfold sortK at er
  have hrd := rd_ok s1 hx
  split at er
  · rename_i ds hds
    rw [hds] at hrd
    split at er
    · rename_i ks hk
      split at er
      · rename_i hc
        cases er
        obtain ⟨a, vs, rfl, hF, hD⟩ := hrd
        refine ⟨rfl, a, w1, ds, ks, rfl, rfl, s, ⟨a, vs, rfl, hF, hD⟩, hk, hc.1, hc.2, fun p w' out e2 s2 hμ hp hr => ?_⟩
        obtain ⟨n1, n2, n3, n4⟩ := new_ok s2 (o := .lst out) hp
        refine q1 _ { w' with H := upd w'.H p (.lst out) } (.ref p) ?_ (e2.trans n2) n1 (rc_m _ _ _ _ _ e2 (new_rc s2 (c := .lst ((srtD ks ds).map T.d)) (d_paired hr) hp))
        show Rs.ok _ w1.μ = Rs.ok _ w'.μ
        rw [hμ]
      · cases er
    · cases er
  · cases er
end
end Fm
set_option Elab.async false
set_option linter.all false
set_option maxRecDepth 100000
namespace Fm
open PySem L2 PySem.Spec PyProof.Rows
/-! ### dict(xs), xs a list of pairs -/
def pairsD : List D → Option (List (Key × D))
  | [] => some []
  | .tup [.str k, v] :: r => (pairsD r).map fun l => (.inr k, v) :: l
  | _ :: _ => none
def gDictP (_ : Mu) (xs : List T) : Option Cell := match xs with
  | [.d (.lst ds)] => (pairsD ds).map fun l => .dct (mergeT [] (l.map fun p => (p.1, T.d p.2)))
  | _ => none
section
variable {X : Cx} {K : PySem.W.Frag}
theorem pairsD_ok {w : Wd} (s : StOk K w) : ∀ {ds : List D} {vs : List V} {l : List (Key × D)}, pairsD ds = some l → Reps K w.F ds vs → ∃ (ps : List Addr) (kvs : List (Key × V)), vs = ps.map V.ref ∧ Paired (fun p kv => SqT K w.H p [kV kv.1, kv.2]) ps kvs ∧ Paired (fun p q => p.1 = q.1 ∧ w.t K p.2 q.2) (l.map fun p => (p.1, T.d p.2)) kvs
  | [], vs, l, h, r => by
    cases h
    cases (show vs = [] from r)
    exact ⟨[], [], rfl, .nil, .nil⟩
  | d :: ds, vs, l, h, r => by
    obtain ⟨v, q, rfl, h1, h2⟩ := r
    unfold pairsD at h
    split at h
    · cases ‹_ :: _ = []›
    · rename_i k x r' e
      cases e
      obtain ⟨l', h3, rfl⟩ := Option.map_eq_some_iff.mp h
      obtain ⟨ps, kvs, rfl, p1, p2⟩ := pairsD_ok s h3 h2
      obtain ⟨a, us, rfl, h4, u1, r1, e1, h5, u2, r2, e2, h6, e3⟩ := h1
      subst e1 e2
      cases (show r2 = [] from e3)
      cases (show u1 = .str k from h5)
      exact ⟨a :: ps, (.inr k, u2) :: kvs, rfl, .cons (SqT.of (s.sub _ _ h4)) p1, .cons ⟨rfl, h6⟩ p2⟩
    · cases h
def rDictP (K : PySem.W.Frag) : RCall := fun xs H Q => ∃ (a : Addr) (ps : List Addr) (kvs : List (Key × V)), xs = [.ref a] ∧ SqL K H a (ps.map V.ref) ∧ Paired (fun p kv => SqT K H p [kV kv.1, kv.2]) ps kvs ∧ ∀ p, H p = none → Q (.ref p) (upd H p (.dK (mergeK [] kvs)))
theorem bn_dictP (hc : X.calm = true := by rfl) (hK : X.K = K := by rfl) : BN K X (.type "dict") (rDictP K) gDictP := by
  subst hK
  refine ⟨call_dictP hc, fun w xs vs c s hx e => ?_⟩
  unfold gDictP at e
  split at e
  · rename_i ds
    obtain ⟨l, h1, rfl⟩ := Option.map_eq_some_iff.mp e
    obtain ⟨v, rfl, hv⟩ := one_of hx
    obtain ⟨a, us, rfl, h2, h3⟩ := hv
    obtain ⟨ps, kvs, rfl, p1, p2⟩ := pairsD_ok s h1 h3
    exact ⟨.dK (mergeK [] kvs), merge_ok p2 .nil, fun Q q => ⟨a, ps, kvs, rfl, SqL.of (s.sub _ _ h2), p1, q⟩⟩
  · cases e
/-! ### sum(xs) -/
def gSum (μ : Mu) (xs : List T) : Option T := match xs with
  | [x] => ((lstOf μ x).bind intsT).map fun ns => .d (.int ns.sum)
  | _ => none
theorem bi_sum (hc : X.calm = true := by rfl) (hK : X.K = K := by rfl) : BI K X (.builtin "sum") (rSum K) gSum := by
  subst hK
  refine ⟨cr_sum hc, fun w xs vs z s hx e => ?_⟩
  unfold gSum at e
  split at e
  · obtain ⟨v, rfl, hv⟩ := one_of hx
    obtain ⟨ns, h1, h2⟩ := Option.map_eq_some_iff.mp e
    obtain ⟨ys, h3, h4⟩ := Option.bind_eq_some_iff.mp h1
    obtain ⟨a, us, q1, q2, q3⟩ := lst_ok s hv h3
    have q4 := intsT_ok q3 h4
    subst q4
    rw [← h2]
    exact ⟨.int ns.sum, rfl, fun Q q => ⟨a, ns, by rw [q1], q2, q⟩⟩
  · cases e
end
end Fm
set_option Elab.async false
set_option linter.all false
set_option maxRecDepth 100000
namespace Fm
open PySem L2 PySem.Spec PyProof.Rows StX
section
variable {X : Cx} {E : XK} {K : PySem.W.Frag}
/-! ### xs[::-1] -/
theorem pd_reverse {α β : Type} {R : α → β → Prop} {xs : List α} {ys : List β} (h : Paired R xs ys) : Paired R xs.reverse ys.reverse := by
  induction h with
  | nil => exact .nil
  | cons h t ih =>
    rw [List.reverse_cons, List.reverse_cons]
    exact pd_app ih (.cons h .nil)
def cRevL (f : EF) : CF := fun ρ => mbind (f ρ) fun x μ => mof ((lstOf μ (rd μ x)).map fun xs => Cell.lst xs.reverse) μ
theorem pc_revL {e : Expr} {te : TE} {f : EF} {k : Nat} {p1 p2 p3 pos : Pos} (h : PD K X E e te f) (hK : X.K = K := by rfl) : PCr K X E (.Subscript e (.Slice none none (some (.UnaryOp .USub (.Constant (.int 1) k p1) p2)) p3) pos) (tRevL K te) (cRevL f) := by
  subst hK
  refine ⟨pe_revL h.pe, fun w σ ρ ev => ?_⟩
  show At X.K E w (fun (Q : VK) => te σ w.H fun x H1 => ∃ (a : Addr) (xs : List V), x = V.ref a ∧ SqL X.K H1 a xs ∧ ∀ p : Addr, H1 p = none → Q (V.ref p) (upd H1 p (HO.lst xs.reverse))) _ (RC X.K)
  refine At.bind rc_m (h.ok w σ ρ ev) fun x v w1 e1 s1 hx => ?_
  have q := at_new (K := X.K) (E := E) (w := w1) (t := fun Q => ∃ a xs, v = .ref a ∧ SqL X.K w1.H a xs ∧ ∀ p, w1.H p = none → Q (.ref p) (upd w1.H p (.lst xs.reverse))) (o := (lstOf w1.μ (rd w1.μ x)).map fun xs => Cell.lst xs.reverse) fun s c hc => by
    obtain ⟨xs, h1, h2⟩ := Option.map_eq_some_iff.mp hc
    obtain ⟨p, vs, h3, h4, h5⟩ := lst_ok s (rd_ok s hx) h1
    rw [← h2]
    exact ⟨.lst vs.reverse, pd_reverse h5, fun Q q => ⟨p, vs, h3, h4, q⟩⟩
  exact q
/-! ### [*xs, y, ..] -/
def aStar (f : EF) (g : AF) : AF := fun ρ => mbind (f ρ) fun x μ => match seqOf μ (rd μ x) with
  | some xs => mbind (g ρ) (fun ys => mret (xs ++ ys)) μ
  | none => none
theorem pl_star {e : Expr} {es : List Expr} {te : TE} {tb : TA} {f : EF} {g : AF} {p : Pos} (h : PD K X E e te f) (hr : PL K X E es tb g) (hs : starEach (.Starred e p :: es) X.env = (true, eval e X.env) :: starEach es X.env := by rfl) (hK : X.K = K := by rfl) : PL K X E (.Starred e p :: es) (tStar K te tb) (aStar f g) := by
  subst hK
  refine ⟨pa_star h.pe hr.pe hs, fun w σ ρ ev => ?_⟩
  show At X.K E w (fun Q => te σ w.H fun x H1 => ∃ p xs, x = V.ref p ∧ (SqT X.K H1 p xs ∨ SqL X.K H1 p xs) ∧ tb σ H1 fun ys H2 => Q (xs ++ ys) H2) _ _
  refine At.bind rl_m (h.ok w σ ρ ev) fun x v w1 e1 s1 hx => ?_
  intro s r er Q q1 q2
  have er : (match seqOf w1.μ (rd w1.μ x) with
    | some xs => mbind (g ρ) (fun ys => mret (xs ++ ys)) w1.μ
    | none => none) = some r := er
  split at er
  · rename_i xs hq
    obtain ⟨a, vs, h3, h4, h5⟩ := seq_ok s (rd_ok s hx) hq
    refine ⟨a, vs, h3, h4.symm, ?_⟩
    have := At.bind (K := X.K) (E := E) (w := w1) (R2 := RL X.K) (u := fun ys H (Q : List V → Hp → Prop) => Q (vs ++ ys) H) (g := fun ys => mret (xs ++ ys)) rl_m (hr.ok w1 σ ρ (ev.ext e1)) fun ys us w2 e2 s2 hy => At.ret (a := xs ++ ys) (b := vs ++ us) (R := RL X.K) (pd_app (pd_imp (fun _ _ q => e2.t q) h5) hy)
    exact this s r er Q q1 q2
  · cases er
/-! ### enumerate of a list of data -/
def enumL (ds : List D) : List T := (List.range ds.length).map fun i => T.d (.tup [.int (i : Nat), ds.getD i .non])
def enumD (xs : List T) : Option (List T) := match xs with
  | [x] => match lstD x with
    | some as => (dTs [] as).map enumL
    | none => none
  | _ => none
def iEnm (f : AF) : AF := fun ρ => mbind (f ρ) fun xs μ => mof (enumD (xs.map (rd μ))) μ
theorem it_enum {e : Expr} {ta : TA} {f : AF} {p pos tpos : Pos} {elts : List Expr} {kk : Nat} (hm : X.mg "enumerate" = none) (ha : PL K X E [e] ta f) (hg : Gl X "enumerate" := by rfl) (hK : X.K = K := by rfl)
    (hs : starEach [e] X.env = [(false, eval e X.env)] := by rfl) :
    PIt K X E (.Tuple elts kk tpos) (.Call (.Name "enumerate" p) [e] [] pos) (iEnum K ta) (iEnm f) := by
  subst hK
  refine ⟨pi_enum hg hm ha.pe hs, fun w σ ρ ev s r er R q1 q2 => ?_⟩
  show ta σ w.H fun vs H1 => ∃ a xs, vs = [V.ref a] ∧ SqL X.K H1 a xs ∧ R (Ite X.K a) H1
  refine At.use (ha.ok w σ ρ ev) s er _ (fun xs w1 vs _ er2 e1 s2 hx => ?_) q2
  have er2 : mof (enumD (xs.map (rd w1.μ))) w1.μ = some r := er2
  have hx := rds_ok s2 hx
  generalize xs.map (rd w1.μ) = ys at er2 hx
  unfold enumD mof at er2
  split at er2
  · cases er2
  · rename_i zs hzs
    split at hzs
    · rename_i x
      split at hzs
      · rename_i as h1
        obtain ⟨ds, h3, h4⟩ := Option.map_eq_some_iff.mp hzs
        cases h4
        cases er2
        obtain ⟨v, rfl, hv⟩ := one_of hx
        obtain ⟨a, av, a1, a2, a3⟩ := lstD_ok hv h1
        rw [dTs_nil h3] at a3
        refine ⟨a, av, by rw [a1], s2.sub.seq a2, ?_⟩
        have la := pd_len a3
        rw [List.length_map] at la
        have hn : (enumL ds).length = av.length := by unfold enumL; rw [List.length_map, List.length_range, la]
        refine q1 _ w1 rfl e1 s2 _ _ _ (by rw [hn]; exact walk_enum) fun w2 x2 s3 => ⟨s3.sub.seq (x2.sub.seq a2), fun i x H' hi y => ?_⟩
        obtain ⟨T', x', y', rfl, hT, rfl, hx', hy'⟩ := y
        cases hx'
        obtain ⟨t2, d1, d2⟩ := pd_get' a3 hy'
        rw [List.getElem?_map] at d1
        obtain ⟨g2, l1, l2⟩ := Option.map_eq_some_iff.mp d1
        subst l2
        obtain ⟨w4, j1, j2, j3, j4, j5⟩ := tup_new s3 (ds := [.int (i : Nat), g2]) hT ⟨_, _, rfl, rfl, _, _, rfl, x2.t d2, rfl⟩
        refine ⟨w4, _, j1, j2, j3, j4, ?_, j5⟩
        have hil : i < ds.length := by rw [la]; rw [hn] at hi; exact hi
        unfold enumL
        rw [List.getElem?_map, List.getElem?_range hil]
        simp [List.getD_eq_getElem?_getD, l1]
      · cases hzs
    · cases hzs
end
end Fm
set_option Elab.async false
set_option linter.all false
set_option maxRecDepth 100000
namespace Fm
open PySem L2 PySem.Spec PyProof.Rows StX
/-! ### del xs[a:] -/
theorem fm_take {α : Type} (sel : Nat → Bool) (a : Nat) : ∀ (l : List α) (i : Nat), (∀ k, i ≤ k → k < i + l.length → sel k = decide (a ≤ k)) → (l.zipIdx i).filterMap (fun p => if sel p.2 = true then none else some p.1) = l.take (a - i)
  | [], i, _ => by simp
  | x :: l, i, h => by
    have h0 := h i (Nat.le_refl _) (by rw [List.length_cons]; omega)
    have ih := fm_take sel a l (i + 1) fun k h1 h2 => h k (by omega) (by rw [List.length_cons]; omega)
    rw [List.zipIdx_cons, List.filterMap_cons, ih, h0]
    by_cases ha : a ≤ i
    · rw [decide_eq_true ha]
      simp [show a - i = 0 by omega, show a - (i + 1) = 0 by omega]
    · rw [decide_eq_false ha]
      obtain ⟨m, hm⟩ : ∃ m, a - i = m + 1 := ⟨a - i - 1, by omega⟩
      rw [hm, show a - (i + 1) = m by omega]
      simp
theorem bounds_from {a n : Nat} (ha : a ≤ n) : sliceBounds (some (a : Int)) none none n = ((a : Int), (n : Int), 1) := by
  simp only [sliceBounds, Option.getD_none]
  have h1 : ¬ ((a : Int) < 0) := by omega
  simp only [h1, if_false, show (1 : Int) > 0 by decide, if_true]
  congr 1
  omega
section
variable {prog : Program} {w : World} {A : Around} {E : Value → Shared → Prop} {s : Shared}
theorem delItem_from {l sl : Addr} {items : Array Value} {n : Nat} {vl : Value} {a : Nat} {Q : Unit → Shared → Prop}
    (e : s.heap.get? l = some { cls := .type "list", data := .seq items n })
    (hs : s.heap.IsSliceOf sl vl .none .none) (pl : IsPart vl (some (a : Int))) (ha : a ≤ items.size)
    (hsz : items.size ≤ sizeLine) (h : ∀ f : Array Value → Array Value, f items = (items.toList.take a).toArray → Q () { s with heap := s.heap.update l (Obj.mapSeq f) }) :
    wpAny (model prog w) A (delItem (.ref l) (.ref sl)) Q E s := by
  have hl : s.heap.IsList l items := PySem.IsL.isList e
  obtain ⟨os, hos, hcs, hds⟩ := id hs
  have hTs : s.TypeIs (.ref sl) "slice" := ⟨os, hos, hcs⟩
  have hstep : ¬ ((rawPart none == rawInt 0) = true) := Bool.false_ne_true
  unfold delItem
  try with_reducible refine wpAny_holding ?_
  first | refine wpAny_bind (wpAny_pure ?_) | skip
  refine wpAny_bind (wpAny_sequenceKey hl.typeIs (by decide) ?_)
  refine wpAny_bind (wpAny_callSpecial?_slot (name := Str.ofString "__delitem__") hl.typeIs F.slot_list_delitem
    (wpAny_call_entry F.slot_list_delitem hl.typeIs F.entry_list_delitem ?_ (F.args_list_delitem_2 _ _)))
  show wpAny _ _ (Builtin.List.listSubscript? (.ref sl) >>= _) _ _ s
  refine wpAny_bind ?_
  unfold Builtin.List.listSubscript?
  refine wpAny_bind (wpAny_specialOf hTs slice_no_index ?_)
  simp only [Option.isNone_none, if_true]
  refine wpAny_pure ?_
  show wpAny _ _ (typeOf (.ref sl) >>= _) _ _ s
  refine wpAny_bind (wpAny_typeOf hTs ?_)
  first
    | rw [if_neg (by decide)]
    | refine PySem.W.KFB.if_not (by decide) ?_
  rw [listSliceParts_eq]
  refine wpAny_bind (wpAny_bind (wpAny_field hos hds (x := .none) rfl (wpAny_bind (wpAny_listPart .none ?_))))
  rw [if_neg hstep]
  refine wpAny_bind (wpAny_field hos hds (x := vl) rfl (wpAny_bind (wpAny_listPart pl ?_)))
  refine wpAny_bind (wpAny_field hos hds (x := .none) rfl (wpAny_bind (wpAny_listPart .none (wpAny_pure ?_))))
  unfold Builtin.List.listItems
  refine wpAny_bind (wpAny_bind (wpAny_seqItems e rfl (wpAny_pure ?_)))
  refine wpAny_bind (wpAny_of_eq ((sliceIndices_raw (some (a : Int)) none none items.size (by simp)).trans (congrArg (pure : Int × Int × Int → Sem (Int × Int × Int)) (bounds_from ha))) ?_)
  refine wpAny_bind (wpAny_rule ?_)
  have hf : ∀ k, 0 ≤ k → k < 0 + items.toList.length → (if (1 : Int) > 0 then decide ((a : Int) ≤ (k : Nat)) && decide (((k : Nat) : Int) < (items.size : Nat)) && (((k : Nat) : Int) - (a : Int)) % 1 == 0 else false) = decide (a ≤ k) := fun k _ h2 => by
    rw [if_pos (by decide)]
    have h2 : k < items.size := by simpa using h2
    have e1 : decide (((k : Nat) : Int) < (items.size : Nat)) = true := decide_eq_true (by omega)
    have e2 : ((((k : Nat) : Int) - (a : Int)) % 1 == 0) = true := by simp [Int.emod_one]
    have e3 : decide ((a : Int) ≤ (k : Nat)) = decide (a ≤ k) := decide_eq_decide.mpr (by omega)
    rw [e1, e2, e3]
    simp
  have hlen : ∀ (sel : Nat → Bool) (l : List (Value × Nat)), (l.filterMap fun p => if sel p.2 = true then none else some p.1).length ≤ l.length := fun sel l => List.length_filterMap_le _ _
  unfold Builtin.List.listUpdate
  refine wpAny_bind (wpAny_updateSeq (hz := hsz) (_hz' := ?_) e rfl ?_)
  · refine wpAny_bind (wpAny_letGo ?_)
    refine wpAny_pure ⟨.none, rfl, wpAny_pure (h _ ?_)⟩
    exact congrArg List.toArray (fm_take _ a items.toList 0 hf)
  · refine Nat.le_trans (m := items.size) ?_ (Nat.le_succ_of_le hsz)
    rw [List.size_toArray]
    refine Nat.le_trans (List.length_filterMap_le _ _) ?_
    simp
end
section
variable {X : Cx} {E : XK} {K : PySem.W.Frag}
def tDelF (to tl : TE) : TS := fun D σ H => to σ H fun x H1 => tPart tl σ H1 fun o H2 => ∃ (l : Addr) (xs : List V) (a : Nat), x = .ref l ∧ o = some (a : Int) ∧ H2 l = some (.lst xs) ∧ a ≤ xs.length ∧ D.nx σ (upd H2 l (.lst (xs.take a)))
theorem ps_delF {o lo : Expr} {to tl : TE} {p2 tpos pos : Pos} (ho : PE X o to) (hl : PE X lo tl) : PS X (.Delete [.Subscript o (.Slice (some lo) none none p2) tpos] pos) (tDelF to tl) := by
  refine ⟨fun pins s σ H D I h => ?_⟩
  refine wpAny_Delete (wpAny_deleteEach_cons (wpAny_delete_Subscript (thn (ho.run pins s σ H _ I h) fun u s1 ⟨x, H1, I1, rx, q1⟩ => ?_)))
  refine wpAny_Slice (thn ((po_some hl).run pins s1 σ H1 _ I1 q1) fun vl s2 ⟨o2, H2, I2, pl, q⟩ => ?_)
  refine thn (po_none.run pins s2 σ H2 (fun o H3 => o = none ∧ H3 = H2) I2 ⟨rfl, rfl⟩) fun vu s3 ⟨u3, H3, I3, pu, eu, e3⟩ => ?_
  subst eu e3
  refine thn (po_none.run pins s3 σ H3 (fun o H4 => o = none ∧ H4 = H3) I3 ⟨rfl, rfl⟩) fun vs s4 ⟨u4, H4, I4, ps, eu, e4⟩ => ?_
  subst eu e4
  have I5 : Inv X pins σ H4 { s4 with heap := s4.heap.push { cls := .type "slice", data := .fields #[vl, vu, vs] } } := I4.kept (t' := s4.toks) fun b ob q => Heap.get?_push_of_some _ q
  obtain ⟨l, xs, a, ex, ei, hH, hal, q⟩ := q
  subst ex ei
  cases (show u = Value.ref l from rx)
  cases pu
  cases ps
  obtain ⟨z, its, n, r, hl', e⟩ := I5.lstM hH
  have hlen := r.length
  refine delItem_from (a := a) (items := its.toArray) e (Heap.IsSliceOf.new _ vl .none .none) pl (by rw [List.size_toArray]; omega) (by rw [List.size_toArray]; omega) fun f hf => wpAny_deleteEach_nil ⟨σ, _, ?_, q⟩
  exact I5.lset (its' := its.take a) (t' := s4.toks) hH e (by rw [hf]) (r.take a) (by rw [List.length_take]; omega)
def delFr (μ : Mu) (x k : T) : Option Mu := match lstC μ x, k with
  | some (n, ys), .d (.int i) => if 0 ≤ i ∧ i ≤ ys.length then some (μ.set n (.lst (ys.take i.toNat))) else none
  | _, _ => none
def sDelF (fo fk : EF) : SF := fun ρ => mbind (fo ρ) fun x => mbind (fk ρ) fun k μ => match delFr μ x (rd μ k) with
  | some μ' => some (.ok (.nx, ρ) μ')
  | none => none
theorem sok_delF {to tk : TE} {fo fk : EF} (ho : EOk K E to fo) (hk : EOk K E tk fk) : SOk K E (tDelF to tk) (sDelF fo fk) := fun w σ ρ ev s r e D P => by
  show to σ w.H fun x H1 => tk σ H1 fun y H2 => ∃ i, y = V.int i ∧ ∃ (l : Addr) (xs : List V) (a : Nat), x = V.ref l ∧ some i = some (a : Int) ∧ H2 l = some (HO.lst xs) ∧ a ≤ xs.length ∧ D.nx σ (upd H2 l (HO.lst (xs.take a)))
  refine At.use (ho w σ ρ ev) s e _ (fun xo w2 o _ e2 x2 s2 hxo => ?_) P.2
  refine At.use (hk w2 σ ρ (ev.ext x2)) s2 e2 _ (fun xk w3 i _ e3 x3 s3 hxk => ?_) fun a w' cls d z e' => P.2 a w' cls d z (x2.trans e')
  have e3 : (match delFr w3.μ xo (rd w3.μ xk) with
    | some μ' => some (Rs.ok (Fl.nx, ρ) μ')
    | none => none) = some r := e3
  have hxk := rd_ok s3 hxk
  generalize rd w3.μ xk = yk at e3 hxk
  split at e3
  · rename_i μ' hμ
    cases e3
    unfold delFr at hμ
    split at hμ
    · rename_i n ys j hl
      split at hμ
      · rename_i hj
        cases hμ
        obtain ⟨a, vs, h1, h2, h3, h4, h5, h6⟩ := lstC_ok s3 (x3.t hxo) hl
        have hlen := pd_len h6
        refine ⟨j, hxk, a, vs, j.toNat, h1, by rw [Int.toNat_of_nonneg hj.1], h5, by omega, ?_⟩
        obtain ⟨k1, k2⟩ := wr_ok s3 h2 h3 rfl (c' := .lst (ys.take j.toNat)) rfl (CellOk.lst_upd h4 (pd_take j.toNat h6))
        exact P.1 .nx ρ _ rfl ((x2.trans x3).trans k2) k1 σ ((ev.ext (x2.trans x3)).ext k2)
      · cases hμ
    · cases hμ
  · cases e3
theorem st_delF {o lo : Expr} {to tl : TE} {fo fl : EF} {p2 tpos pos : Pos} (ho : PD K X E o to fo) (hl : PD K X E lo tl fl) : PSt K X E (.Delete [.Subscript o (.Slice (some lo) none none p2) tpos] pos) (tDelF to tl) (sDelF fo fl) := ⟨ps_delF ho.pe hl.pe, sok_delF ho.ok hl.ok⟩
end
end Fm
set_option Elab.async false
set_option linter.all false
set_option maxRecDepth 100000
namespace Fm
open PySem L2 PySem.Spec PyProof.Rows StX
section
variable {X : Cx} {E : XK} {K : PySem.W.Frag} {k : Nat}
/-! ### min(xs) -/
def gMinL (μ : Mu) (xs : List T) : Option T := match xs with
  | [x] => ((lstOf μ x).bind intsT).bind fun ns => ns.min?.map fun m => .d (.int m)
  | _ => none
theorem bi_minL (hc : X.calm = true := by rfl) (hK : X.K = K := by rfl) : BI K X (.builtin "min") (rMin K) gMinL := by
  subst hK
  refine ⟨cr_min hc, fun w xs vs z s hx e => ?_⟩
  unfold gMinL at e
  split at e
  · obtain ⟨v, rfl, hv⟩ := one_of hx
    obtain ⟨ns, h1, h2⟩ := Option.bind_eq_some_iff.mp e
    obtain ⟨ys, h3, h4⟩ := Option.bind_eq_some_iff.mp h1
    obtain ⟨m, h5, h6⟩ := Option.map_eq_some_iff.mp h2
    obtain ⟨a, us, q1, q2, q3⟩ := lst_ok s hv h3
    have q4 := intsT_ok q3 h4
    subst q4
    have hm := List.min?_eq_some_iff.mp h5
    refine ⟨.int m, by rw [← h6]; rfl, fun Q q => ⟨a, ns, by rw [q1], q2, ?_, fun m' hm1 hm2 => ?_⟩⟩
    · exact List.length_pos_of_mem hm.1
    · have : m' = m := Int.le_antisymm (hm2 m hm.1) (hm.2 m' hm1)
      rw [this]
      exact q
  · cases e
end
end Fm
set_option Elab.async false
set_option linter.all false
set_option maxRecDepth 100000
namespace Fm
open PySem L2 PySem.Spec PyProof.Rows
section
variable {X : Cx} {E : XK} {K : PySem.W.Frag} {k : Nat}
/-- t[lo:hi], the whole of it, too -/
def slW (x : T) (l u : Option Int) : M T := fun μ => match rd μ x with
  | .d (.tup xs) => some (.ok (.d (.tup (cutL xs l u))) μ)
  | _ => none
def eSlA (f : EF) (l u : OF) : EF := fun ρ => mbind (f ρ) fun x => mbind (l ρ) fun lo => mbind (u ρ) fun hi => slW x lo hi
theorem pd_slA {e : Expr} {lo hi : Option Expr} {te : TE} {tl tu : TO} {f : EF} {l u : OF} {p2 pos : Pos} (h : PD K X E e te f) (hl : PO' K X E lo tl l) (hu : PO' K X E hi tu u) (hK : X.K = K := by rfl) : PD K X E (.Subscript e (.Slice lo hi none p2) pos) (tSl (rSlA K) te tl tu) (eSlA f l u) := by
  subst hK
  obtain ⟨a1, a2⟩ := h
  obtain ⟨b1, b2⟩ := hl
  obtain ⟨c1, c2⟩ := hu
  refine ⟨pe_slice sl_tupA a1 b1 c1, fun w σ ρ ev => ?_⟩
  show At X.K E w (fun Q => te σ w.H fun x H1 => tl σ H1 fun a H2 => tu σ H2 fun b H3 => rSlA X.K x a b H3 Q) _ _
  refine At.bind rv_m (a2 w σ ρ ev) fun x v w1 e1 s1 hx => At.bind rv_m (b2 w1 σ ρ (ev.ext e1)) fun a a' w2 e2 s2 ha => At.bind rv_m (c2 w2 σ ρ ((ev.ext e1).ext e2)) fun b b' w3 e3 s3 hb => ?_
  cases ha
  cases hb
  intro s r e Q k _
  unfold slW at e
  have hx := rd_ok s (e3.t (e2.t hx))
  split at e
  · rename_i xs hz
    rw [hz] at hx
    cases e
    have hx0 := hx
    obtain ⟨p0, vs, rfl, h2, h3⟩ := hx
    have hlen := pd_len (Reps.paired.mp h3)
    refine ⟨p0, vs, rfl, .of (s.sub _ _ h2), fun hw => ?_, fun hne p hp => ?_⟩
    · have hc : cutL xs a b = xs := by
        rw [← hlen] at hw
        unfold cutL
        rw [hw.1, hw.2, List.drop_zero, Nat.sub_zero, List.take_length]
      exact k (.d (.tup (cutL xs a b))) w3 (.ref p0) rfl (Ext.refl _) s (by rw [hc]; exact hx0)
    · obtain ⟨w4, q1, q2, q3, q4, q5⟩ := tup_new' s (reps_cut h3 a b) hp
      rw [← q1]
      exact k (.d (.tup (cutL xs a b))) w4 (.ref p) (by rw [q2]) q3 q4 q5
  · cases e
/-- not e as a value, by truth -/
def eNotT (f : EF) : EF := fun ρ => mbind (f ρ) fun x => mbind (tOf x) fun b => mret (.d (.bl (!b)))
theorem pd_notT {a : Expr} {ta : TE} {fa : EF} {pos : Pos} (ha : PD K X E a ta fa) (hK : X.K = K := by rfl) : PD K X E (.UnaryOp .Not a pos) (tNotT K ta) (eNotT fa) := by
  subst hK
  refine ⟨pe_notT ha.pe, fun w σ ρ ev => ?_⟩
  show At X.K E w (fun Q : VK => ta σ w.H fun x H1 => ∃ k, TruV X.K x H1 k ∧ Q (V.bl (!k)) H1) (mbind (fa ρ) fun x => mbind (tOf x) fun b => mret (.d (.bl (!b)))) (RV X.K)
  refine At.bind (R := RV X.K) rv_m (ha.ok w σ ρ ev) fun x v w1 _ s1 hx => ?_
  intro s r e Q k q
  unfold mbind tOf at e
  cases ht : truth w1.μ (rd w1.μ x) with
  | none => rw [ht] at e; cases e
  | some b =>
    rw [ht] at e
    cases e
    exact ⟨b, truth_ok s (rd_ok s hx) ht, k (.d (.bl (!b))) w1 (.bl (!b)) rfl (Ext.refl _) s rfl⟩
end
end Fm
set_option Elab.async false
set_option linter.all false
set_option maxRecDepth 100000
namespace Fm
open PySem L2 PySem.Spec PyProof.Rows
section
variable {P : Program} {w : World} {K : PySem.W.Frag} {mg : Str → Option Value} {base : Heap}
def top (i : Nat) : Stmt := PySem.Challenge.pw_formatfit_k19_reading_again.main.body.getD i (.Pass ⟨0, 0, 0, 0⟩)
/-- what the names of the module and the built-in ones hold -/
structure Txt (K : PySem.W.Frag) (w : World) (mg : Str → Option Value) : Prop where
  k_Format : ClsD K "Format" ["definitions", "root"]
  k_Reading : ClsD K "Reading" ["form", "made", "steps"]
  e_TooLarge : ExK K mg "TooLarge"
  c_CHOICE : ∃ t, mg "CHOICE" = some (.int 4 t)
  c_INTEGER : ∃ t, mg "INTEGER" = some (.int 0 t)
  t_KINDS : KTs K mg "KINDS" (["integer", "text", "list", "record", "choice"] : List Str)
  c_LARGEST_SIZE : ∃ t, mg "LARGEST_SIZE" = some (.int 300 t)
  c_LIST : ∃ t, mg "LIST" = some (.int 2 t)
  m_REASONS : KDs K w mg "REASONS" ([("integer", "out of range"), ("text", "too long"), ("list", "wrong length")] : List (Str × Str))
  c_RECORD : ∃ t, mg "RECORD" = some (.int 3 t)
  c_TEXT : ∃ t, mg "TEXT" = some (.int 1 t)
  b_abs : mg "abs" = none
  b_bool : mg "bool" = none
  b_dict : mg "dict" = none
  b_enumerate : mg "enumerate" = none
  b_int : mg "int" = none
  b_isinstance : mg "isinstance" = none
  b_len : mg "len" = none
  b_list : mg "list" = none
  b_max : mg "max" = none
  b_min : mg "min" = none
  b_range : mg "range" = none
  b_repr : mg "repr" = none
  b_sorted : mg "sorted" = none
  b_str : mg "str" = none
  b_sum : mg "sum" = none
  b_tuple : mg "tuple" = none
  b_zip : mg "zip" = none
/-! ### kind_of -/
abbrev s_kind_of : Stmt := top 10
theorem sc_kind_of : FnScope ["value"] ["value"] (defScope s_kind_of) := ⟨rfl, rfl, rfl, by decide +kernel, rfl, by decide +kernel, by decide +kernel⟩
theorem ok_kind_of {k : Nat}  (T : Txt K w mg) (D : Dx K mg "kind_of" s_kind_of ["value"])  : Fn P w K mg base (k + 1) "kind_of" 1 (fnB 1 (b_kind_of )) :=
  okD D sc_kind_of fun f cdv A outer s H E B => ⟨_, (bl_cons (st_if (pb_truth (pd_isi (pd_var 0) T.b_isinstance T.b_int (by decide +kernel))) (bl_one (st_ret (pd_gi T.c_INTEGER))) bl_nil)
    (bl_cons (st_if (pb_truth (pd_isi (pd_var 0) T.b_isinstance T.b_str (by decide +kernel))) (bl_one (st_ret (pd_gi T.c_TEXT))) bl_nil)
    (bl_cons (st_if (pb_truth (pd_isi (pd_var 0) T.b_isinstance T.b_list (by decide +kernel))) (bl_one (st_ret (pd_gi T.c_LIST))) bl_nil)
    (bl_cons (st_if (pb_truth (pd_isi (pd_var 0) T.b_isinstance T.b_dict (by decide +kernel))) (bl_one (st_ret (pd_gi T.c_RECORD))) bl_nil)
    (bl_one (st_ret (pd_gi T.c_CHOICE)))))))⟩
/-! ### sorted_fields -/
abbrev s_sorted_fields : Stmt := top 11
theorem sc_sorted_fields : FnScope ["record", "name"] ["record"] (defScope s_sorted_fields) := ⟨rfl, rfl, rfl, by decide +kernel, rfl, by decide +kernel, by decide +kernel⟩
theorem ok_sorted_fields {k : Nat}  (T : Txt K w mg) (D : Dx K mg "sorted_fields" s_sorted_fields ["record"])  : Fn P w K mg base (k + 1) "sorted_fields" 1 (fnB 2 (b_sorted_fields )) :=
  okD D sc_sorted_fields fun f cdv A outer s H E B => ⟨_, (bl_one (st_ret (pd_fz (pc_lc (plc (own := [("name", 1)]) (N := ["record", "name"]) (sc := defScope s_sorted_fields) B.toBd sc_sorted_fields.nd (it_lst (pd_fz (pc_B bn_sorted T.b_sorted (by decide +kernel) (pl_cons (pd_var 0) pl_nil)))) (by decide +kernel) (fun _ _ _ _ _ => (tg_n 1 sc_sorted_fields.nd)) (fun _ _ _ _ _ Bx => pts0) (fun _ _ _ _ _ Bx => (pd_tup (pl_cons (pd_var 1) (pl_cons (pd_ix Bx.hu (pd_var 0) (pd_var 1)) pl_nil)))))))))⟩
/-! ### _named_parts -/
abbrev s__named_parts : Stmt := top 12
theorem sc__named_parts : FnScope ["value", "kind", "part"] ["value"] (defScope s__named_parts) := ⟨rfl, rfl, rfl, by decide +kernel, rfl, by decide +kernel, by decide +kernel⟩
theorem ok__named_parts {k : Nat} {f_kind_of f_sorted_fields : FN} (T : Txt K w mg) (D : Dx K mg "_named_parts" s__named_parts ["value"]) (h_kind_of : Fn P w K mg base k "kind_of" 1 f_kind_of) (h_sorted_fields : Fn P w K mg base k "sorted_fields" 1 f_sorted_fields) : Fn P w K mg base (k + 1) "_named_parts" 1 (fnB 3 (b__named_parts f_kind_of f_sorted_fields)) :=
  okD D sc__named_parts fun f cdv A outer s H E B => ⟨_, (bl_cons (st_asg (pd_def B.toBd h_kind_of (pl_cons (pd_var 0) pl_nil) (alen_cons alen_nil)) (tg_n 1 sc__named_parts.nd))
    (bl_cons (st_if (pb_cmp od_eqF (pd_var 1) (pd_gi T.c_LIST)) (bl_one (st_ret (pd_fz (pc_lc (plc (own := [("part", 2)]) (N := ["value", "kind", "part"]) (sc := defScope s__named_parts) B.toBd sc__named_parts.nd (it_lst (pd_var 0)) (by decide +kernel) (fun _ _ _ _ _ => (tg_n 2 sc__named_parts.nd)) (fun _ _ _ _ _ Bx => pts0) (fun _ _ _ _ _ Bx => (pd_tup (pl_cons pd_str (pl_cons (pd_var 2) pl_nil))))))))) bl_nil)
    (bl_cons (st_if (pb_cmp od_eqF (pd_var 1) (pd_gi T.c_RECORD)) (bl_one (st_ret (pd_def B.toBd h_sorted_fields (pl_cons (pd_var 0) pl_nil) (alen_cons alen_nil)))) bl_nil)
    (bl_cons (st_if (pb_cmp od_eqF (pd_var 1) (pd_gi T.c_CHOICE)) (bl_one (st_ret (pd_fz (pc_lst (pl_cons (pd_var 0) pl_nil))))) bl_nil)
    (bl_one (st_ret (pd_fz (pc_lst pl_nil))))))))⟩
/-! ### parts_of -/
abbrev s_parts_of : Stmt := top 13
theorem sc_parts_of : FnScope ["value", "_", "part"] ["value"] (defScope s_parts_of) := ⟨rfl, rfl, rfl, by decide +kernel, rfl, by decide +kernel, by decide +kernel⟩
theorem ok_parts_of {k : Nat} {f__named_parts : FN} (T : Txt K w mg) (D : Dx K mg "parts_of" s_parts_of ["value"]) (h__named_parts : Fn P w K mg base k "_named_parts" 1 f__named_parts) : Fn P w K mg base (k + 1) "parts_of" 1 (fnB 3 (b_parts_of f__named_parts)) :=
  okD D sc_parts_of fun f cdv A outer s H E B => ⟨_, (bl_one (st_ret (pd_fz (pc_lc (plc (own := [("_", 1), ("part", 2)]) (N := ["value", "_", "part"]) (sc := defScope s_parts_of) B.toBd sc_parts_of.nd (it_lst (pd_def B.toBd h__named_parts (pl_cons (pd_var 0) pl_nil) (alen_cons alen_nil))) (by decide +kernel) (fun _ _ _ _ _ => (tg_t (gn_cons 1 (gn_cons 2 gn_nil sc_parts_of.nd) sc_parts_of.nd))) (fun _ _ _ _ _ Bx => pts0) (fun _ _ _ _ _ Bx => (pd_var 2)))))))⟩
/-! ### _own_size -/
abbrev s__own_size : Stmt := top 14
theorem sc__own_size : FnScope ["value"] ["value"] (defScope s__own_size) := ⟨rfl, rfl, rfl, by decide +kernel, rfl, by decide +kernel, by decide +kernel⟩
theorem ok__own_size {k : Nat}  (T : Txt K w mg) (D : Dx K mg "_own_size" s__own_size ["value"])  : Fn P w K mg base (k + 1) "_own_size" 1 (fnB 1 (b__own_size )) :=
  okD D sc__own_size fun f cdv A outer s H E B => ⟨_, (bl_one (st_ret (pd_if (pb_truth (pd_isi (pd_var 0) T.b_isinstance T.b_str (by decide +kernel))) (pd_bin od_add pd_int (pd_B bi_len T.b_len (by decide +kernel) (pl_cons (pd_var 0) pl_nil))) pd_int)))⟩
/-! ### size_of -/
abbrev s_size_of : Stmt := top 15
theorem sc_size_of : FnScope ["value", "size", "waiting", "part"] ["value"] (defScope s_size_of) := ⟨rfl, rfl, rfl, by decide +kernel, rfl, by decide +kernel, by decide +kernel⟩
theorem ok_size_of {k : Nat} {f__own_size f_parts_of : FN} (T : Txt K w mg) (D : Dx K mg "size_of" s_size_of ["value"]) (h__own_size : Fn P w K mg base k "_own_size" 1 f__own_size) (h_parts_of : Fn P w K mg base k "parts_of" 1 f_parts_of) : Fn P w K mg base (k + 1) "size_of" 1 (fnB 4 (b_size_of f__own_size f_parts_of)) :=
  okD D sc_size_of fun f cdv A outer s H E B => ⟨_, (bl_cons (st_asg pd_int (tg_n 1 sc_size_of.nd))
    (bl_cons (st_asg (pd_new (pc_lst (pl_cons (pd_var 0) pl_nil))) (tg_n 2 sc_size_of.nd))
    (bl_cons (st_while B.own (pb_truth (pd_var 2)) (bl_cons (st_asg (pd_BM0 mi_pop (pd_var 2)) (tg_n 3 sc_size_of.nd))
    (bl_cons (st_aug 1 ipd_add (pd_def B.toBd h__own_size (pl_cons (pd_var 3) pl_nil) (alen_cons alen_nil)) sc_size_of.nd)
    (bl_one (st_expr (pd_BM mi_extend (pd_var 2) (pl_cons (pd_def B.toBd h_parts_of (pl_cons (pd_var 3) pl_nil) (alen_cons alen_nil)) pl_nil)))))))
    (bl_one (st_ret (pd_var 1))))))⟩
/-! ### _has_depth -/
abbrev s__has_depth : Stmt := top 16
theorem sc__has_depth : FnScope ["value"] ["value"] (defScope s__has_depth) := ⟨rfl, rfl, rfl, by decide +kernel, rfl, by decide +kernel, by decide +kernel⟩
theorem ok__has_depth {k : Nat} {f_kind_of : FN} (T : Txt K w mg) (D : Dx K mg "_has_depth" s__has_depth ["value"]) (h_kind_of : Fn P w K mg base k "kind_of" 1 f_kind_of) : Fn P w K mg base (k + 1) "_has_depth" 1 (fnB 1 (b__has_depth f_kind_of)) :=
  okD D sc__has_depth fun f cdv A outer s H E B => ⟨_, (bl_one (st_ret (pd_cmp od_ge (pd_def B.toBd h_kind_of (pl_cons (pd_var 0) pl_nil) (alen_cons alen_nil)) (pd_gi T.c_LIST))))⟩
/-! ### copy_of -/
abbrev s_copy_of : Stmt := top 17
theorem sc_copy_of : FnScope ["value", "parts", "part"] ["value"] (defScope s_copy_of) := ⟨rfl, rfl, rfl, by decide +kernel, rfl, by decide +kernel, by decide +kernel⟩
theorem ok_copy_of {k : Nat} {f_parts_of f_kind_of f__has_depth f_copy_of : FN} (T : Txt K w mg) (D : Dx K mg "copy_of" s_copy_of ["value"]) (h_parts_of : Fn P w K mg base k "parts_of" 1 f_parts_of) (h_kind_of : Fn P w K mg base k "kind_of" 1 f_kind_of) (h__has_depth : Fn P w K mg base k "_has_depth" 1 f__has_depth) (h_copy_of : Fn P w K mg base k "copy_of" 1 f_copy_of) : Fn P w K mg base (k + 1) "copy_of" 1 (fnB 3 (b_copy_of f_parts_of f_kind_of f__has_depth f_copy_of)) :=
  okD D sc_copy_of fun f cdv A outer s H E B => ⟨_, (bl_cons (st_if (pb_cmp od_eqF (pd_def B.toBd h_kind_of (pl_cons (pd_var 0) pl_nil) (alen_cons alen_nil)) (pd_gi T.c_CHOICE)) (bl_one (st_ret (pd_tup (pl_cons (pd_ix B.toBd.hu (pd_var 0) pd_int) (pl_cons (pd_def B.toBd h_copy_of (pl_cons (pd_ix B.toBd.hu (pd_var 0) pd_int) pl_nil) (alen_cons alen_nil)) pl_nil))))) bl_nil)
    (bl_cons (st_if (pb_not (pb_truth (pd_def B.toBd h__has_depth (pl_cons (pd_var 0) pl_nil) (alen_cons alen_nil)))) (bl_one (st_ret (pd_var 0))) bl_nil)
    (bl_cons (st_asg (pd_new (pc_lst pl_nil)) (tg_n 1 sc_copy_of.nd))
    (bl_cons (st_for B.own B.calm (it_lst (pd_def B.toBd h_parts_of (pl_cons (pd_var 0) pl_nil) (alen_cons alen_nil))) (tg_n 2 sc_copy_of.nd) (bl_one (st_expr (pd_BM mi_append (pd_var 1) (pl_cons (pd_def B.toBd h_copy_of (pl_cons (pd_var 2) pl_nil) (alen_cons alen_nil)) pl_nil)))))
    (bl_fz 1 (bl_one (st_ret (pd_if (pb_cmp od_eqF (pd_def B.toBd h_kind_of (pl_cons (pd_var 0) pl_nil) (alen_cons alen_nil)) (pd_gi T.c_LIST)) (pd_var 1) (pd_fz (pc_dictZip T.b_dict T.b_zip (pl_cons (pd_fz (pc_B bn_sorted T.b_sorted (by decide +kernel) (pl_cons (pd_var 0) pl_nil))) (pl_cons (pd_var 1) pl_nil))))))))))))⟩
/-! ### Format___init__ -/
abbrev s_Format___init__ : Stmt := inClass (top 19) 0
theorem sc_Format___init__ : FnScope ["self", "root", "definitions"] ["self", "root", "definitions"] (defScope s_Format___init__) := ⟨rfl, rfl, rfl, by decide +kernel, rfl, by decide +kernel, by decide +kernel⟩
theorem ok_Format___init__ {k : Nat}  (T : Txt K w mg) (D : DxI K mg "Format" "Format.__init__" s_Format___init__ ["self", "root", "definitions"])  : FnI P w K mg base (k + 1) "Format" 3 (fnB 3 (b_Format___init__ )) :=
  okDI D sc_Format___init__ fun f cdv A outer s H E B => ⟨_, (bl_cons (st_fld T.k_Format.hc T.k_Format.cl (T.k_Format.na _ (by decide +kernel)) (pd_var 1) (pd_var 0))
    (bl_one (st_fld T.k_Format.hc T.k_Format.cl (T.k_Format.na _ (by decide +kernel)) (pd_fz (pc_Ty bn_dict T.b_dict (by decide +kernel) (pl_cons (pd_var 2) pl_nil))) (pd_var 0))))⟩
/-! ### Format_of -/
abbrev s_Format_of : Stmt := inClass (top 19) 1
theorem sc_Format_of : FnScope ["self", "name"] ["self", "name"] (defScope s_Format_of) := ⟨rfl, rfl, rfl, by decide +kernel, rfl, by decide +kernel, by decide +kernel⟩
theorem ok_Format_of {k : Nat}  (T : Txt K w mg) (D : DxM K "Format" "of" "Format.of" s_Format_of ["self", "name"])  : FnM P w K mg base (k + 1) "Format" "of" 2 (fnB 2 (b_Format_of )) :=
  okDM D sc_Format_of fun f cdv A outer s H E B => ⟨_, (bl_one (st_ret (pd_ix B.toBd.hu (pd_fld T.k_Format.hc T.k_Format.cl (T.k_Format.na _ (by decide +kernel)) (pd_var 0)) (pd_var 1))))⟩
/-! ### case_of -/
abbrev s_case_of : Stmt := top 20
theorem sc_case_of : FnScope ["definition", "tag", "case"] ["definition", "tag"] (defScope s_case_of) := ⟨rfl, rfl, rfl, by decide +kernel, rfl, by decide +kernel, by decide +kernel⟩
theorem ok_case_of {k : Nat}  (T : Txt K w mg) (D : Dx K mg "case_of" s_case_of ["definition", "tag"])  : Fn P w K mg base (k + 1) "case_of" 2 (fnB 3 (b_case_of )) :=
  okD D sc_case_of fun f cdv A outer s H E B => ⟨_, (bl_cons (st_if (pb_cmp od_eqF (pd_ix B.toBd.hu (pd_var 0) pd_int) pd_str) (bl_one (st_for B.own B.calm (it_tup (pd_ix B.toBd.hu (pd_var 0) pd_int)) (tg_n 2 sc_case_of.nd) (bl_one (st_if (pb_cmp od_eqF (pd_ix B.toBd.hu (pd_var 2) pd_int) (pd_var 1)) (bl_one (st_ret (pd_ix B.toBd.hu (pd_var 2) pd_int))) bl_nil)))) bl_nil)
    (bl_one (st_ret pd_non)))⟩
/-! ### is_kind -/
abbrev s_is_kind : Stmt := top 23
theorem sc_is_kind : FnScope ["definition", "value"] ["definition", "value"] (defScope s_is_kind) := ⟨rfl, rfl, rfl, by decide +kernel, rfl, by decide +kernel, by decide +kernel⟩
theorem ok_is_kind {k : Nat} {f_kind_of : FN} (T : Txt K w mg) (D : Dx K mg "is_kind" s_is_kind ["definition", "value"]) (h_kind_of : Fn P w K mg base k "kind_of" 1 f_kind_of) : Fn P w K mg base (k + 1) "is_kind" 2 (fnB 2 (b_is_kind f_kind_of)) :=
  okD D sc_is_kind fun f cdv A outer s H E B => ⟨_, (bl_one (st_ret (pd_cmp od_eqF (pd_kt T.t_KINDS (pd_def B.toBd h_kind_of (pl_cons (pd_var 1) pl_nil) (alen_cons alen_nil))) (pd_ix B.toBd.hu (pd_var 0) pd_int))))⟩
/-! ### is_within -/
abbrev s_is_within : Stmt := top 24
theorem sc_is_within : FnScope ["definition", "value"] ["definition", "value"] (defScope s_is_within) := ⟨rfl, rfl, rfl, by decide +kernel, rfl, by decide +kernel, by decide +kernel⟩
theorem ok_is_within {k : Nat}  (T : Txt K w mg) (D : Dx K mg "is_within" s_is_within ["definition", "value"])  : Fn P w K mg base (k + 1) "is_within" 2 (fnB 2 (b_is_within )) :=
  okD D sc_is_within fun f cdv A outer s H E B => ⟨_, (bl_cons (st_if (pb_cmp od_eqF (pd_ix B.toBd.hu (pd_var 0) pd_int) pd_str) (bl_one (st_ret (pd_chain od_le od_le (pd_ix B.toBd.hu (pd_var 0) pd_int) (pd_var 1) (pd_ix B.toBd.hu (pd_var 0) pd_int)))) bl_nil)
    (bl_cons (st_if (pb_cmp od_eqF (pd_ix B.toBd.hu (pd_var 0) pd_int) pd_str) (bl_one (st_ret (pd_cmp od_le (pd_B bi_len T.b_len (by decide +kernel) (pl_cons (pd_var 1) pl_nil)) (pd_ix B.toBd.hu (pd_var 0) pd_int)))) bl_nil)
    (bl_one (st_ret (pd_chain od_le od_le (pd_ix B.toBd.hu (pd_var 0) pd_int) (pd_B bi_len T.b_len (by decide +kernel) (pl_cons (pd_var 1) pl_nil)) (pd_ix B.toBd.hu (pd_var 0) pd_int))))))⟩
/-! ### Reading___init__ -/
abbrev s_Reading___init__ : Stmt := inClass (top 27) 0
theorem sc_Reading___init__ : FnScope ["self", "form"] ["self", "form"] (defScope s_Reading___init__) := ⟨rfl, rfl, rfl, by decide +kernel, rfl, by decide +kernel, by decide +kernel⟩
theorem ok_Reading___init__ {k : Nat}  (T : Txt K w mg) (D : DxI K mg "Reading" "Reading.__init__" s_Reading___init__ ["self", "form"])  : FnI P w K mg base (k + 1) "Reading" 2 (fnB 2 (b_Reading___init__ )) :=
  okDI D sc_Reading___init__ fun f cdv A outer s H E B => ⟨_, (bl_cons (st_fld T.k_Reading.hc T.k_Reading.cl (T.k_Reading.na _ (by decide +kernel)) (pd_var 1) (pd_var 0))
    (bl_cons (st_fld T.k_Reading.hc T.k_Reading.cl (T.k_Reading.na _ (by decide +kernel)) (pd_new (pc_lst pl_nil)) (pd_var 0))
    (bl_one (st_fld T.k_Reading.hc T.k_Reading.cl (T.k_Reading.na _ (by decide +kernel)) (pd_new (pc_lst pl_nil)) (pd_var 0)))))⟩
/-! ### Reading_put_off -/
abbrev s_Reading_put_off : Stmt := inClass (top 27) 1
theorem sc_Reading_put_off : FnScope ["self", "steps"] ["self", "steps"] (defScope s_Reading_put_off) := ⟨rfl, rfl, rfl, by decide +kernel, rfl, by decide +kernel, by decide +kernel⟩
theorem ok_Reading_put_off {k : Nat}  (T : Txt K w mg) (D : DxM K "Reading" "put_off" "Reading.put_off" s_Reading_put_off ["self", "steps"])  : FnM P w K mg base (k + 1) "Reading" "put_off" 2 (fnB 2 (b_Reading_put_off )) :=
  okDM D sc_Reading_put_off fun f cdv A outer s H E B => ⟨_, (bl_one (st_expr (pd_BM mi_extend (pd_fld T.k_Reading.hc T.k_Reading.cl (T.k_Reading.na _ (by decide +kernel)) (pd_var 0)) (pl_cons (pd_fz (pc_revL (pd_var 1))) pl_nil))))⟩
/-! ### Reading_go_on -/
abbrev s_Reading_go_on : Stmt := inClass (top 27) 2
theorem sc_Reading_go_on : FnScope ["self", "word", "what", "value", "path"] ["self"] (defScope s_Reading_go_on) := ⟨rfl, rfl, rfl, by decide +kernel, rfl, by decide +kernel, by decide +kernel⟩
theorem ok_Reading_go_on {k : Nat} {f_Reading_read_part f_Reading_put_together f_Format_of f_copy_of : FN} (T : Txt K w mg) (D : DxM K "Reading" "go_on" "Reading.go_on" s_Reading_go_on ["self"]) (h_Reading_read_part : FnM P w K mg base k "Reading" "read_part" 4 f_Reading_read_part) (h_Reading_put_together : FnM P w K mg base k "Reading" "put_together" 3 f_Reading_put_together) (h_Format_of : FnM P w K mg base k "Format" "of" 2 f_Format_of) (h_copy_of : Fn P w K mg base k "copy_of" 1 f_copy_of) : FnM P w K mg base (k + 1) "Reading" "go_on" 1 (fnB 5 (b_Reading_go_on f_Reading_read_part f_Reading_put_together f_Format_of f_copy_of)) :=
  okDM D sc_Reading_go_on fun f cdv A outer s H E B => ⟨_, (bl_cons (st_asg (pd_BM0 mi_pop (pd_fld T.k_Reading.hc T.k_Reading.cl (T.k_Reading.na _ (by decide +kernel)) (pd_var 0))) (tg_t (gn_cons 1 (gn_cons 2 (gn_cons 3 (gn_cons 4 gn_nil sc_Reading_go_on.nd) sc_Reading_go_on.nd) sc_Reading_go_on.nd) sc_Reading_go_on.nd)))
    (bl_cons (st_if (pb_cmp od_eqF (pd_var 1) pd_str) (bl_one (st_ret (pd_meth B.toBd h_Reading_read_part (pd_var 0) (pl_cons (pd_meth B.toBd h_Format_of (pd_fld T.k_Reading.hc T.k_Reading.cl (T.k_Reading.na _ (by decide +kernel)) (pd_var 0)) (pl_cons (pd_var 2) pl_nil) (alen_cons alen_nil)) (pl_cons (pd_var 3) (pl_cons (pd_var 4) pl_nil))) (alen_cons (alen_cons (alen_cons alen_nil)))))) bl_nil)
    (bl_cons (st_if (pb_cmp od_eqF (pd_var 1) pd_str) (bl_one (st_ret (pd_tup (pl_cons pd_str (pl_cons pd_str (pl_cons (pd_var 4) pl_nil)))))) bl_nil)
    (bl_cons (st_if (pb_cmp od_eqF (pd_var 1) pd_str) (bl_one (st_expr (pd_BM mi_append (pd_fld T.k_Reading.hc T.k_Reading.cl (T.k_Reading.na _ (by decide +kernel)) (pd_var 0)) (pl_cons (pd_def B.toBd h_copy_of (pl_cons (pd_var 3) pl_nil) (alen_cons alen_nil)) pl_nil)))) (bl_one (st_expr (pd_meth B.toBd h_Reading_put_together (pd_var 0) (pl_cons (pd_var 1) (pl_cons (pd_var 2) pl_nil)) (alen_cons (alen_cons alen_nil))))))
    (bl_one (st_ret pd_non))))))⟩
/-! ### Reading_read_part -/
abbrev s_Reading_read_part : Stmt := inClass (top 27) 3
theorem sc_Reading_read_part : FnScope ["self", "definition", "value", "path", "kind"] ["self", "definition", "value", "path"] (defScope s_Reading_read_part) := ⟨rfl, rfl, rfl, by decide +kernel, rfl, by decide +kernel, by decide +kernel⟩
theorem ok_Reading_read_part {k : Nat} {f_is_kind f_Reading_put_off f_Reading_read_choice f_is_within f_copy_of f__steps_of_record f__steps_of_list : FN} (T : Txt K w mg) (D : DxM K "Reading" "read_part" "Reading.read_part" s_Reading_read_part ["self", "definition", "value", "path"]) (h_is_kind : Fn P w K mg base k "is_kind" 2 f_is_kind) (h_Reading_put_off : FnM P w K mg base k "Reading" "put_off" 2 f_Reading_put_off) (h_Reading_read_choice : FnM P w K mg base k "Reading" "read_choice" 4 f_Reading_read_choice) (h_is_within : Fn P w K mg base k "is_within" 2 f_is_within) (h_copy_of : Fn P w K mg base k "copy_of" 1 f_copy_of) (h__steps_of_record : Fn P w K mg base k "_steps_of_record" 3 f__steps_of_record) (h__steps_of_list : Fn P w K mg base k "_steps_of_list" 3 f__steps_of_list) : FnM P w K mg base (k + 1) "Reading" "read_part" 4 (fnB 5 (b_Reading_read_part f_is_kind f_Reading_put_off f_Reading_read_choice f_is_within f_copy_of f__steps_of_record f__steps_of_list)) :=
  okDM D sc_Reading_read_part fun f cdv A outer s H E B => ⟨_, (bl_cons (st_asg (pd_ix B.toBd.hu (pd_var 1) pd_int) (tg_n 4 sc_Reading_read_part.nd))
    (bl_cons (st_if (pb_cmp od_eqF (pd_var 4) pd_str) (bl_cons (st_expr (pd_BM mi_append (pd_fld T.k_Reading.hc T.k_Reading.cl (T.k_Reading.na _ (by decide +kernel)) (pd_var 0)) (pl_cons (pd_def B.toBd h_copy_of (pl_cons (pd_var 2) pl_nil) (alen_cons alen_nil)) pl_nil)))
    (bl_one (st_ret pd_non))) bl_nil)
    (bl_cons (st_if (pb_not (pb_truth (pd_def B.toBd h_is_kind (pl_cons (pd_var 1) (pl_cons (pd_var 2) pl_nil)) (alen_cons (alen_cons alen_nil))))) (bl_one (st_ret (pd_tup (pl_cons pd_str (pl_cons pd_str (pl_cons (pd_var 3) pl_nil)))))) bl_nil)
    (bl_cons (st_if (pb_cmp od_eqF (pd_var 4) pd_str) (bl_cons (st_expr (pd_meth B.toBd h_Reading_put_off (pd_var 0) (pl_cons (pd_def B.toBd h__steps_of_record (pl_cons (pd_var 1) (pl_cons (pd_var 2) (pl_cons (pd_var 3) pl_nil))) (alen_cons (alen_cons (alen_cons alen_nil)))) pl_nil) (alen_cons alen_nil)))
    (bl_one (st_ret pd_non))) bl_nil)
    (bl_cons (st_if (pb_cmp od_eqF (pd_var 4) pd_str) (bl_one (st_ret (pd_meth B.toBd h_Reading_read_choice (pd_var 0) (pl_cons (pd_var 1) (pl_cons (pd_var 2) (pl_cons (pd_var 3) pl_nil))) (alen_cons (alen_cons (alen_cons alen_nil)))))) bl_nil)
    (bl_cons (st_if (pb_not (pb_truth (pd_def B.toBd h_is_within (pl_cons (pd_var 1) (pl_cons (pd_var 2) pl_nil)) (alen_cons (alen_cons alen_nil))))) (bl_one (st_ret (pd_tup (pl_cons pd_str (pl_cons (pd_kd T.m_REASONS (pd_var 4)) (pl_cons (pd_var 3) pl_nil)))))) bl_nil)
    (bl_cons (st_if (pb_cmp od_eqF (pd_var 4) pd_str) (bl_one (st_expr (pd_meth B.toBd h_Reading_put_off (pd_var 0) (pl_cons (pd_def B.toBd h__steps_of_list (pl_cons (pd_var 1) (pl_cons (pd_var 2) (pl_cons (pd_var 3) pl_nil))) (alen_cons (alen_cons (alen_cons alen_nil)))) pl_nil) (alen_cons alen_nil)))) (bl_one (st_expr (pd_BM mi_append (pd_fld T.k_Reading.hc T.k_Reading.cl (T.k_Reading.na _ (by decide +kernel)) (pd_var 0)) (pl_cons (pd_var 2) pl_nil)))))
    (bl_one (st_ret pd_non)))))))))⟩
/-! ### Reading_read_choice -/
abbrev s_Reading_read_choice : Stmt := inClass (top 27) 4
theorem sc_Reading_read_choice : FnScope ["self", "definition", "value", "path", "known", "tag", "inner"] ["self", "definition", "value", "path"] (defScope s_Reading_read_choice) := ⟨rfl, rfl, rfl, by decide +kernel, rfl, by decide +kernel, by decide +kernel⟩
theorem ok_Reading_read_choice {k : Nat} {f_case_of f_Reading_put_off f_copy_of : FN} (T : Txt K w mg) (D : DxM K "Reading" "read_choice" "Reading.read_choice" s_Reading_read_choice ["self", "definition", "value", "path"]) (h_case_of : Fn P w K mg base k "case_of" 2 f_case_of) (h_Reading_put_off : FnM P w K mg base k "Reading" "put_off" 2 f_Reading_put_off) (h_copy_of : Fn P w K mg base k "copy_of" 1 f_copy_of) : FnM P w K mg base (k + 1) "Reading" "read_choice" 4 (fnB 7 (b_Reading_read_choice f_case_of f_Reading_put_off f_copy_of)) :=
  okDM D sc_Reading_read_choice fun f cdv A outer s H E B => ⟨_, (bl_cons (st_asg (pd_var 2) (tg_t (gn_cons 5 (gn_cons 6 gn_nil sc_Reading_read_choice.nd) sc_Reading_read_choice.nd)))
    (bl_cons (st_asg (pd_def B.toBd h_case_of (pl_cons (pd_var 1) (pl_cons (pd_var 5) pl_nil)) (alen_cons (alen_cons alen_nil))) (tg_n 4 sc_Reading_read_choice.nd))
    (bl_cons (st_if (pb_cmp od_isNot (pd_var 4) pd_non) (bl_one (st_expr (pd_meth B.toBd h_Reading_put_off (pd_var 0) (pl_cons (pd_fz (pc_lst (pl_cons (pd_tup (pl_cons pd_str (pl_cons (pd_var 4) (pl_cons (pd_var 6) (pl_cons (pd_fz (pc_lst (pl_star (pd_var 3) (pl_cons (pd_bin od_add pd_str (pd_var 5)) pl_nil)))) pl_nil))))) (pl_cons (pd_tup (pl_cons pd_str (pl_cons (pd_var 5) (pl_cons pd_non (pl_cons (pd_var 3) pl_nil))))) pl_nil)))) pl_nil) (alen_cons alen_nil)))) (bl_one (st_if (pb_cmp od_is (pd_ix B.toBd.hu (pd_var 1) pd_int) pd_non) (bl_one (st_ret (pd_tup (pl_cons pd_str (pl_cons pd_str (pl_cons (pd_var 3) pl_nil)))))) (bl_one (st_expr (pd_BM mi_append (pd_fld T.k_Reading.hc T.k_Reading.cl (T.k_Reading.na _ (by decide +kernel)) (pd_var 0)) (pl_cons (pd_def B.toBd h_copy_of (pl_cons (pd_ix B.toBd.hu (pd_var 1) pd_int) pl_nil) (alen_cons alen_nil)) pl_nil)))))))
    (bl_one (st_ret pd_non)))))⟩
/-! ### Reading_put_together -/
abbrev s_Reading_put_together : Stmt := inClass (top 27) 5
theorem sc_Reading_put_together : FnScope ["self", "word", "what", "many", "start", "parts"] ["self", "word", "what"] (defScope s_Reading_put_together) := ⟨rfl, rfl, rfl, by decide +kernel, rfl, by decide +kernel, by decide +kernel⟩
theorem ok_Reading_put_together {k : Nat}  (T : Txt K w mg) (D : DxM K "Reading" "put_together" "Reading.put_together" s_Reading_put_together ["self", "word", "what"])  : FnM P w K mg base (k + 1) "Reading" "put_together" 3 (fnB 6 (b_Reading_put_together )) :=
  okDM D sc_Reading_put_together fun f cdv A outer s H E B => ⟨_, (bl_cons (st_if (pb_cmp od_eqF (pd_var 1) pd_str) (bl_cons (st_expr (pd_BM mi_append (pd_fld T.k_Reading.hc T.k_Reading.cl (T.k_Reading.na _ (by decide +kernel)) (pd_var 0)) (pl_cons (pd_tup (pl_cons (pd_var 2) (pl_cons (pd_BM0 mi_pop (pd_fld T.k_Reading.hc T.k_Reading.cl (T.k_Reading.na _ (by decide +kernel)) (pd_var 0))) pl_nil))) pl_nil)))
    (bl_one st_retN)) bl_nil)
    (bl_cons (st_asg (pd_if (pb_cmp od_eqF (pd_var 1) pd_str) (pd_var 2) (pd_B bi_len T.b_len (by decide +kernel) (pl_cons (pd_var 2) pl_nil))) (tg_n 3 sc_Reading_put_together.nd))
    (bl_cons (st_asg (pd_bin od_sub (pd_B bi_len T.b_len (by decide +kernel) (pl_cons (pd_fld T.k_Reading.hc T.k_Reading.cl (T.k_Reading.na _ (by decide +kernel)) (pd_var 0)) pl_nil)) (pd_var 3)) (tg_n 4 sc_Reading_put_together.nd))
    (bl_cons (st_asg (pd_fz (pc_slL (pd_fld T.k_Reading.hc T.k_Reading.cl (T.k_Reading.na _ (by decide +kernel)) (pd_var 0)) (po_s (pd_var 4)) po_n)) (tg_n 5 sc_Reading_put_together.nd))
    (bl_cons (st_delF (pd_fld T.k_Reading.hc T.k_Reading.cl (T.k_Reading.na _ (by decide +kernel)) (pd_var 0)) (pd_var 4))
    (bl_one (st_expr (pd_BM mi_append (pd_fld T.k_Reading.hc T.k_Reading.cl (T.k_Reading.na _ (by decide +kernel)) (pd_var 0)) (pl_cons (pd_if (pb_cmp od_eqF (pd_var 1) pd_str) (pd_var 5) (pd_fz (pc_dictZip T.b_dict T.b_zip (pl_cons (pd_var 2) (pl_cons (pd_var 5) pl_nil))))) pl_nil)))))))))⟩
/-! ### _steps_of_list -/
abbrev s__steps_of_list : Stmt := top 28
theorem sc__steps_of_list : FnScope ["definition", "value", "path", "steps", "at", "part"] ["definition", "value", "path"] (defScope s__steps_of_list) := ⟨rfl, rfl, rfl, by decide +kernel, rfl, by decide +kernel, by decide +kernel⟩
theorem ok__steps_of_list {k : Nat}  (T : Txt K w mg) (D : Dx K mg "_steps_of_list" s__steps_of_list ["definition", "value", "path"])  : Fn P w K mg base (k + 1) "_steps_of_list" 3 (fnB 6 (b__steps_of_list )) :=
  okD D sc__steps_of_list fun f cdv A outer s H E B => ⟨_, (bl_cons (have q := (plc (own := [("at", 4), ("part", 5)]) (N := ["definition", "value", "path", "steps", "at", "part"]) (sc := defScope s__steps_of_list) B.toBd sc__steps_of_list.nd (it_enum T.b_enumerate (pl_cons (pd_var 1) pl_nil)) (by decide +kernel) (fun _ _ _ _ _ => (tg_t (gn_cons 4 (gn_cons 5 gn_nil sc__steps_of_list.nd) sc__steps_of_list.nd))) (fun _ _ _ _ _ Bx => pts0) (fun _ _ _ _ _ Bx => (pd_tup (pl_cons pd_str (pl_cons (pd_ix Bx.hu (pd_var 0) pd_int) (pl_cons (pd_var 5) (pl_cons (pd_fz (pc_lst (pl_star (pd_var 2) (pl_cons (pd_var 4) pl_nil)))) pl_nil))))))); st_lc 3 q (eok_fz q.ok) (sw_true rfl rfl rfl (by decide +kernel)))
    (bl_one (st_ret (pd_fz (pc_lst (pl_star (pd_var 3) (pl_cons (pd_tup (pl_cons pd_str (pl_cons (pd_B bi_len T.b_len (by decide +kernel) (pl_cons (pd_var 1) pl_nil)) (pl_cons pd_non (pl_cons (pd_var 2) pl_nil))))) pl_nil)))))))⟩
/-! ### _steps_of_record -/
abbrev s__steps_of_record : Stmt := top 29
theorem sc__steps_of_record : FnScope ["definition", "value", "path", "steps", "names", "field", "name"] ["definition", "value", "path"] (defScope s__steps_of_record) := ⟨rfl, rfl, rfl, by decide +kernel, rfl, by decide +kernel, by decide +kernel⟩
theorem ok__steps_of_record {k : Nat}  (T : Txt K w mg) (D : Dx K mg "_steps_of_record" s__steps_of_record ["definition", "value", "path"])  : Fn P w K mg base (k + 1) "_steps_of_record" 3 (fnB 7 (b__steps_of_record )) :=
  okD D sc__steps_of_record fun f cdv A outer s H E B => ⟨_, (bl_cons (st_asg (pd_new (pc_lst pl_nil)) (tg_n 3 sc__steps_of_record.nd))
    (bl_cons (st_asg (pd_new (pc_lst pl_nil)) (tg_n 4 sc__steps_of_record.nd))
    (bl_cons (st_for B.own B.calm (it_tup (pd_ix B.toBd.hu (pd_var 0) pd_int)) (tg_n 5 sc__steps_of_record.nd) (bl_cons (st_asg (pd_ix B.toBd.hu (pd_var 5) pd_int) (tg_n 6 sc__steps_of_record.nd))
    (bl_one (st_if (pb_cmp (od_inD B.toBd.hu) (pd_var 6) (pd_var 1)) (bl_cons (st_expr (pd_BM mi_append (pd_var 3) (pl_cons (pd_tup (pl_cons pd_str (pl_cons (pd_ix B.toBd.hu (pd_var 5) pd_int) (pl_cons (pd_ix B.toBd.hu (pd_var 1) (pd_var 6)) (pl_cons (pd_fz (pc_lst (pl_star (pd_var 2) (pl_cons (pd_var 6) pl_nil)))) pl_nil))))) pl_nil)))
    (bl_one (st_expr (pd_BM mi_append (pd_var 4) (pl_cons (pd_var 6) pl_nil))))) (bl_one (st_if (pb_cmp od_eqF (pd_ix B.toBd.hu (pd_var 5) pd_int) pd_str) (bl_one (st_expr (pd_BM mi_append (pd_var 3) (pl_cons (pd_tup (pl_cons pd_str (pl_cons pd_non (pl_cons pd_non (pl_cons (pd_fz (pc_lst (pl_star (pd_var 2) (pl_cons (pd_var 6) pl_nil)))) pl_nil))))) pl_nil)))) (bl_one (st_if (pb_cmp od_eqF (pd_ix B.toBd.hu (pd_var 5) pd_int) pd_str) (bl_cons (st_expr (pd_BM mi_append (pd_var 3) (pl_cons (pd_tup (pl_cons pd_str (pl_cons pd_non (pl_cons (pd_ix B.toBd.hu (pd_var 5) pd_int) (pl_cons (pd_var 2) pl_nil))))) pl_nil)))
    (bl_one (st_expr (pd_BM mi_append (pd_var 4) (pl_cons (pd_var 6) pl_nil))))) bl_nil))))))))
    (bl_fz 4 (bl_fz 3 (bl_one (st_ret (pd_fz (pc_lst (pl_star (pd_var 3) (pl_cons (pd_tup (pl_cons pd_str (pl_cons (pd_var 4) (pl_cons pd_non (pl_cons (pd_var 2) pl_nil))))) pl_nil)))))))))))⟩
/-! ### read_by -/
abbrev s_read_by : Stmt := top 30
theorem sc_read_by : FnScope ["form", "name", "value", "reading", "failure"] ["form", "name", "value"] (defScope s_read_by) := ⟨rfl, rfl, rfl, by decide +kernel, rfl, by decide +kernel, by decide +kernel⟩
theorem ok_read_by {k : Nat} {f_Reading___init__ f_Reading_put_off f_Reading_go_on : FN} (T : Txt K w mg) (D : Dx K mg "read_by" s_read_by ["form", "name", "value"]) (h_Reading___init__ : FnI P w K mg base k "Reading" 2 f_Reading___init__) (h_Reading_put_off : FnM P w K mg base (k + 1) "Reading" "put_off" 2 f_Reading_put_off) (h_Reading_go_on : FnM P w K mg base (k + 1) "Reading" "go_on" 1 f_Reading_go_on) : Fn P w K mg base (k + 2) "read_by" 3 (fnB 5 (b_read_by f_Reading___init__ f_Reading_put_off f_Reading_go_on)) :=
  okD D sc_read_by fun f cdv A outer s H E B => ⟨_, (bl_cons (st_asg (pd_make B.toBd h_Reading___init__ (pl_cons (pd_var 0) pl_nil) (alen_cons alen_nil)) (tg_n 3 sc_read_by.nd))
    (bl_cons (st_expr (pd_meth B.toBd h_Reading_put_off (pd_var 3) (pl_cons (pd_fz (pc_lst (pl_cons (pd_tup (pl_cons pd_str (pl_cons (pd_var 1) (pl_cons (pd_var 2) (pl_cons (pd_fz (pc_lst pl_nil)) pl_nil))))) pl_nil))) pl_nil) (alen_cons alen_nil)))
    (bl_cons (st_while B.own (pb_truth (pd_fld T.k_Reading.hc T.k_Reading.cl (T.k_Reading.na _ (by decide +kernel)) (pd_var 3))) (bl_cons (st_asg (pd_meth0 B.toBd h_Reading_go_on (pd_var 3)) (tg_n 4 sc_read_by.nd))
    (bl_one (st_if (pb_cmp od_isNot (pd_var 4) pd_non) (bl_one (st_ret (pd_var 4))) bl_nil))))
    (bl_one (st_ret (pd_tup (pl_cons pd_str (pl_cons (pd_ix B.toBd.hu (pd_fld T.k_Reading.hc T.k_Reading.cl (T.k_Reading.na _ (by decide +kernel)) (pd_var 3)) pd_int) pl_nil))))))))⟩
/-! ### read -/
abbrev s_read : Stmt := top 31
theorem sc_read : FnScope ["form", "value", "told"] ["form", "value"] (defScope s_read) := ⟨rfl, rfl, rfl, by decide +kernel, rfl, by decide +kernel, by decide +kernel⟩
theorem ok_read {k : Nat} {f_read_by f_size_of : FN} (T : Txt K w mg) (D : Dx K mg "read" s_read ["form", "value"]) (h_read_by : Fn P w K mg base k "read_by" 3 f_read_by) (h_size_of : Fn P w K mg base k "size_of" 1 f_size_of) : Fn P w K mg base (k + 1) "read" 2 (fnB 3 (b_read f_read_by f_size_of)) :=
  okD D sc_read fun f cdv A outer s H E B => ⟨_, (bl_cons (st_asg (pd_def B.toBd h_read_by (pl_cons (pd_var 0) (pl_cons (pd_fld T.k_Format.hc T.k_Format.cl (T.k_Format.na _ (by decide +kernel)) (pd_var 0)) (pl_cons (pd_var 1) pl_nil))) (alen_cons (alen_cons (alen_cons alen_nil)))) (tg_n 2 sc_read.nd))
    (bl_cons (st_if (pb_bool (pwb_and (pb_cmp od_eqF (pd_ix B.toBd.hu (pd_var 2) pd_int) pd_str) (pw1_and (pb_cmp od_gt (pd_def B.toBd h_size_of (pl_cons (pd_ix B.toBd.hu (pd_var 2) pd_int) pl_nil) (alen_cons alen_nil)) (pd_gi T.c_LARGEST_SIZE))))) (bl_one (st_raise0 T.e_TooLarge B.toBd.calm B.tk)) bl_nil)
    (bl_one (st_ret (pd_var 2)))))⟩
/-! ### _law_cell -/
abbrev s__law_cell : Stmt := top 33
theorem sc__law_cell : FnScope ["script", "k"] ["script", "k"] (defScope s__law_cell) := ⟨rfl, rfl, rfl, by decide +kernel, rfl, by decide +kernel, by decide +kernel⟩
theorem ok__law_cell {k : Nat}  (T : Txt K w mg) (D : Dx K mg "_law_cell" s__law_cell ["script", "k"])  : Fn P w K mg base (k + 1) "_law_cell" 2 (fnB 2 (b__law_cell )) :=
  okD D sc__law_cell fun f cdv A outer s H E B => ⟨_, (bl_cons (st_if (pb_cmp od_lt (pd_var 1) (pd_B bi_len T.b_len (by decide +kernel) (pl_cons (pd_var 0) pl_nil))) (bl_one (st_ret (pd_ix B.toBd.hu (pd_var 0) (pd_var 1)))) bl_nil)
    (bl_one (st_ret pd_int)))⟩
/-! ### _law_row -/
abbrev s__law_row : Stmt := top 34
theorem sc__law_row : FnScope ["cell", "k", "many", "row", "seed", "turn"] ["cell", "k", "many"] (defScope s__law_row) := ⟨rfl, rfl, rfl, by decide +kernel, rfl, by decide +kernel, by decide +kernel⟩
theorem ok__law_row {k : Nat}  (T : Txt K w mg) (D : Dx K mg "_law_row" s__law_row ["cell", "k", "many"])  : Fn P w K mg base (k + 1) "_law_row" 3 (fnB 6 (b__law_row_k13 )) :=
  okD D sc__law_row fun f cdv A outer s H E B => ⟨_, (bl_cons (st_asg (pd_new (pc_lst pl_nil)) (tg_n 3 sc__law_row.nd))
    (bl_cons (st_if (pb_cmp od_lt (pd_var 0) pd_int) (bl_one (st_asg (pd_bin od_sub pd_int (pd_bin od_mul pd_int (pd_var 0))) (tg_n 0 sc__law_row.nd))) bl_nil)
    (bl_cons (st_if (pb_cmp od_ge (pd_var 0) (pd_bin od_pow pd_int pd_int)) (bl_cons (st_for B.own B.calm (it_rng1 T.b_range (pl_cons pd_int pl_nil)) (tg_n 5 sc__law_row.nd) (bl_one (st_if (pb_bool (pwb_and (pb_cmp od_gt (pd_var 0) pd_int) (pw1_and (pb_cmp od_lt (pd_B bi_len T.b_len (by decide +kernel) (pl_cons (pd_var 3) pl_nil)) (pd_var 2))))) (bl_cons (st_expr (pd_BM mi_append (pd_var 3) (pl_cons (pd_bin od_mod (pd_Ty bi_int T.b_int (by decide +kernel) (pl_cons (pd_var 0) pl_nil)) pd_int) pl_nil)))
    (bl_one (st_asg (pd_bin od_fdiv (pd_var 0) pd_int) (tg_n 0 sc__law_row.nd)))) bl_nil)))
    (bl_fz 3 (bl_one (st_ret (pd_var 3))))) bl_nil)
    (bl_cons (st_asg (pd_bin od_mod (pd_Ty bi_int T.b_int (by decide +kernel) (pl_cons (pd_bin od_add (pd_bin od_add (pd_bin od_mul (pd_var 0) pd_int) (pd_bin od_mul (pd_var 1) pd_int)) pd_int) pl_nil)) pd_int) (tg_n 4 sc__law_row.nd))
    (bl_cons (st_for B.own B.calm (it_rng1 T.b_range (pl_cons (pd_var 2) pl_nil)) (tg_n 5 sc__law_row.nd) (bl_cons (st_asg (pd_bin od_mod (pd_Ty bi_int T.b_int (by decide +kernel) (pl_cons (pd_bin od_add (pd_bin od_add (pd_bin od_mul (pd_var 4) pd_int) (pd_bin od_mul pd_int (pd_var 5))) pd_int) pl_nil)) pd_int) (tg_n 4 sc__law_row.nd))
    (bl_one (st_expr (pd_BM mi_append (pd_var 3) (pl_cons (pd_bin od_mod (pd_Ty bi_int T.b_int (by decide +kernel) (pl_cons (pd_bin od_fdiv (pd_var 4) pd_int) pl_nil)) pd_int) pl_nil))))))
    (bl_fz 3 (bl_one (st_ret (pd_var 3)))))))))⟩
/-! ### _law_box -/
abbrev s__law_box : Stmt := top 35
theorem sc__law_box : FnScope ["script", "first", "last", "row", "k"] ["script", "first", "last"] (defScope s__law_box) := ⟨rfl, rfl, rfl, by decide +kernel, rfl, by decide +kernel, by decide +kernel⟩
theorem ok__law_box {k : Nat} {f__law_row f__law_cell : FN} (T : Txt K w mg) (D : Dx K mg "_law_box" s__law_box ["script", "first", "last"]) (h__law_row : Fn P w K mg base k "_law_row" 3 f__law_row) (h__law_cell : Fn P w K mg base k "_law_cell" 2 f__law_cell) : Fn P w K mg base (k + 1) "_law_box" 3 (fnB 5 (b__law_box f__law_row f__law_cell)) :=
  okD D sc__law_box fun f cdv A outer s H E B => ⟨_, (bl_cons (st_asg (pd_fz (pc_lst pl_nil)) (tg_n 3 sc__law_box.nd))
    (bl_cons (st_for B.own B.calm (it_rng2 T.b_range (pl_cons (pd_var 1) (pl_cons (pd_var 2) pl_nil))) (tg_n 4 sc__law_box.nd) (bl_one (st_asg (pd_fz (pc_cat (pd_var 3) (pd_def B.toBd h__law_row (pl_cons (pd_def B.toBd h__law_cell (pl_cons (pd_var 0) (pl_cons (pd_var 4) pl_nil)) (alen_cons (alen_cons alen_nil))) (pl_cons (pd_var 4) (pl_cons pd_int pl_nil))) (alen_cons (alen_cons (alen_cons alen_nil)))))) (tg_n 3 sc__law_box.nd))))
    (bl_one (st_ret (pd_new (pc_lst (pl_cons (pd_var 3) (pl_cons pd_int pl_nil))))))))⟩
/-! ### _law_draw -/
abbrev s__law_draw : Stmt := top 36
theorem sc__law_draw : FnScope ["box", "many", "at"] ["box", "many"] (defScope s__law_draw) := ⟨rfl, rfl, rfl, by decide +kernel, rfl, by decide +kernel, by decide +kernel⟩
theorem ok__law_draw {k : Nat}  (T : Txt K w mg) (D : Dx K mg "_law_draw" s__law_draw ["box", "many"])  : Fn P w K mg base (k + 1) "_law_draw" 2 (fnB 3 (b__law_draw_k13 )) :=
  okD D sc__law_draw fun f cdv A outer s H E B => ⟨_, (bl_cons (st_asg (pd_ix B.toBd.hu (pd_var 0) pd_int) (tg_n 2 sc__law_draw.nd))
    (bl_cons (st_setL (pd_bin od_add (pd_var 2) pd_int) (pd_var 0) pd_int)
    (bl_cons (st_if (pb_cmp od_lt (pd_var 2) (pd_B bi_len T.b_len (by decide +kernel) (pl_cons (pd_ix B.toBd.hu (pd_var 0) pd_int) pl_nil))) (bl_one (st_ret (pd_bin od_mod (pd_Ty bi_int T.b_int (by decide +kernel) (pl_cons (pd_ix B.toBd.hu (pd_ix B.toBd.hu (pd_var 0) pd_int) (pd_var 2)) pl_nil)) (pd_var 1)))) bl_nil)
    (bl_one (st_ret (pd_bin od_mod (pd_Ty bi_int T.b_int (by decide +kernel) (pl_cons (pd_bin od_add (pd_bin od_mul (pd_var 2) pd_int) pd_int) pl_nil)) (pd_var 1)))))))⟩
/-! ### _law_is_integer -/
abbrev s__law_is_integer : Stmt := top 37
theorem sc__law_is_integer : FnScope ["actual"] ["actual"] (defScope s__law_is_integer) := ⟨rfl, rfl, rfl, by decide +kernel, rfl, by decide +kernel, by decide +kernel⟩
theorem ok__law_is_integer {k : Nat}  (T : Txt K w mg) (D : Dx K mg "_law_is_integer" s__law_is_integer ["actual"])  : Fn P w K mg base (k + 1) "_law_is_integer" 1 (fnB 1 (b__law_is_integer )) :=
  okD D sc__law_is_integer fun f cdv A outer s H E B => ⟨_, (bl_one (st_ret (pd_and (pd_isi (pd_var 0) T.b_isinstance T.b_int (by decide +kernel)) (pe1 (pd_not (pd_isi (pd_var 0) T.b_isinstance T.b_bool (by decide +kernel)))))))⟩
/-! ### _law_same -/
abbrev s__law_same : Stmt := top 38
theorem sc__law_same : FnScope ["one", "other"] ["one", "other"] (defScope s__law_same) := ⟨rfl, rfl, rfl, by decide +kernel, rfl, by decide +kernel, by decide +kernel⟩
theorem ok__law_same {k : Nat}  (T : Txt K w mg) (D : Dx K mg "_law_same" s__law_same ["one", "other"])  : FnG P w K mg base (k + 1) "_law_same" 2 (fnB 2 (b__law_same_k19 )) :=
  okDG D sc__law_same fun f cdv A outer s H E B => ⟨_, (bl_one (st_ret (pd_cmp od_eqF (pd_B (bi_reprN B.gd B.toBd.h64) T.b_repr (by decide +kernel) (pl_cons (pd_var 0) pl_nil)) (pd_B (bi_reprN B.gd B.toBd.h64) T.b_repr (by decide +kernel) (pl_cons (pd_var 1) pl_nil)))))⟩
/-! ### _law_rank -/
abbrev s__law_rank : Stmt := top 39
theorem sc__law_rank : FnScope ["value", "parts", "fields", "part", "name", "field"] ["value"] (defScope s__law_rank) := ⟨rfl, rfl, rfl, by decide +kernel, rfl, by decide +kernel, by decide +kernel⟩
theorem ok__law_rank {k : Nat} {f__law_rank : FN} (T : Txt K w mg) (D : Dx K mg "_law_rank" s__law_rank ["value"]) (h__law_rank : Fn P w K mg base k "_law_rank" 1 f__law_rank) : Fn P w K mg base (k + 1) "_law_rank" 1 (fnB 6 (b__law_rank f__law_rank)) :=
  okD D sc__law_rank fun f cdv A outer s H E B => ⟨_, (bl_cons (st_if (pb_truth (pd_isi (pd_var 0) T.b_isinstance T.b_str (by decide +kernel))) (bl_one (st_ret (pd_tup (pl_cons (pd_bin od_add (pd_B bi_len T.b_len (by decide +kernel) (pl_cons (pd_var 0) pl_nil)) pd_int) (pl_cons pd_int (pl_cons (pd_var 0) pl_nil)))))) bl_nil)
    (bl_cons (st_if (pb_truth (pd_isi (pd_var 0) T.b_isinstance T.b_list (by decide +kernel))) (bl_cons (have q := (plc (own := [("part", 3)]) (N := ["value", "parts", "fields", "part", "name", "field"]) (sc := defScope s__law_rank) B.toBd sc__law_rank.nd (it_lst (pd_var 0)) (by decide +kernel) (fun _ _ _ _ _ => (tg_n 3 sc__law_rank.nd)) (fun _ _ _ _ _ Bx => pts0) (fun _ _ _ _ _ Bx => (pd_def Bx h__law_rank (pl_cons (pd_var 3) pl_nil) (alen_cons alen_nil)))); st_lc 1 q (eok_fz q.ok) (sw_true rfl rfl rfl (by decide +kernel)))
    (bl_one (st_ret (pd_tup (pl_cons (pd_bin od_add pd_int (pd_B bi_sum T.b_sum (by decide +kernel) (pl_cons (pd_fz (pc_lc (plc (own := [("part", 3)]) (N := ["value", "parts", "fields", "part", "name", "field"]) (sc := defScope s__law_rank) B.toBd sc__law_rank.nd (it_lst (pd_var 1)) (by decide +kernel) (fun _ _ _ _ _ => (tg_n 3 sc__law_rank.nd)) (fun _ _ _ _ _ Bx => pts0) (fun _ _ _ _ _ Bx => (pd_ix Bx.hu (pd_var 3) pd_int))))) pl_nil))) (pl_cons pd_int (pl_cons (pd_tupL T.b_tuple (pd_var 1)) pl_nil))))))) bl_nil)
    (bl_cons (st_if (pb_truth (pd_isi (pd_var 0) T.b_isinstance T.b_dict (by decide +kernel))) (bl_cons (have q := (plc (own := [("name", 4)]) (N := ["value", "parts", "fields", "part", "name", "field"]) (sc := defScope s__law_rank) B.toBd sc__law_rank.nd (it_lst (pd_fz (pc_B bn_sorted T.b_sorted (by decide +kernel) (pl_cons (pd_var 0) pl_nil)))) (by decide +kernel) (fun _ _ _ _ _ => (tg_n 4 sc__law_rank.nd)) (fun _ _ _ _ _ Bx => pts0) (fun _ _ _ _ _ Bx => (pd_tup (pl_cons (pd_var 4) (pl_cons (pd_def Bx h__law_rank (pl_cons (pd_ix Bx.hu (pd_var 0) (pd_var 4)) pl_nil) (alen_cons alen_nil)) pl_nil))))); st_lc 2 q (eok_fz q.ok) (sw_true rfl rfl rfl (by decide +kernel)))
    (bl_one (st_ret (pd_tup (pl_cons (pd_bin od_add pd_int (pd_B bi_sum T.b_sum (by decide +kernel) (pl_cons (pd_fz (pc_lc (plc (own := [("field", 5)]) (N := ["value", "parts", "fields", "part", "name", "field"]) (sc := defScope s__law_rank) B.toBd sc__law_rank.nd (it_lst (pd_var 2)) (by decide +kernel) (fun _ _ _ _ _ => (tg_n 5 sc__law_rank.nd)) (fun _ _ _ _ _ Bx => pts0) (fun _ _ _ _ _ Bx => (pd_ix Bx.hu (pd_ix Bx.hu (pd_var 5) pd_int) pd_int))))) pl_nil))) (pl_cons pd_int (pl_cons (pd_tupL T.b_tuple (pd_var 2)) pl_nil))))))) bl_nil)
    (bl_cons (st_if (pb_truth (pd_isi (pd_var 0) T.b_isinstance T.b_tuple (by decide +kernel))) (bl_cons (st_asg (pd_def B.toBd h__law_rank (pl_cons (pd_ix B.toBd.hu (pd_var 0) pd_int) pl_nil) (alen_cons alen_nil)) (tg_n 3 sc__law_rank.nd))
    (bl_one (st_ret (pd_tup (pl_cons (pd_bin od_add pd_int (pd_ix B.toBd.hu (pd_var 3) pd_int)) (pl_cons pd_int (pl_cons (pd_ix B.toBd.hu (pd_var 0) pd_int) (pl_cons (pd_var 3) pl_nil)))))))) bl_nil)
    (bl_one (st_ret (pd_tup (pl_cons pd_int (pl_cons pd_int (pl_cons (pd_B bi_abs T.b_abs (by decide +kernel) (pl_cons (pd_var 0) pl_nil)) (pl_cons (pd_Ty bi_int T.b_int (by decide +kernel) (pl_cons (pd_cmp od_lt (pd_var 0) pd_int) pl_nil)) pl_nil)))))))))))⟩
/-! ### _law_always -/
abbrev s__law_always : Stmt := top 40
theorem sc__law_always : FnScope ["field"] ["field"] (defScope s__law_always) := ⟨rfl, rfl, rfl, by decide +kernel, rfl, by decide +kernel, by decide +kernel⟩
theorem ok__law_always {k : Nat}  (T : Txt K w mg) (D : Dx K mg "_law_always" s__law_always ["field"])  : Fn P w K mg base (k + 1) "_law_always" 1 (fnB 1 (b_is_always )) :=
  okD D sc__law_always fun f cdv A outer s H E B => ⟨_, (bl_one (st_ret (pd_cmp od_neF (pd_ix B.toBd.hu (pd_var 0) pd_int) pd_str)))⟩
/-! ### _law_any -/
abbrev s__law_any : Stmt := top 41
theorem sc__law_any : FnScope ["size", "found", "number"] ["size"] (defScope s__law_any) := ⟨rfl, rfl, rfl, by decide +kernel, rfl, by decide +kernel, by decide +kernel⟩
theorem ok__law_any {k : Nat}  (T : Txt K w mg) (D : Dx K mg "_law_any" s__law_any ["size"])  : Fn P w K mg base (k + 1) "_law_any" 1 (fnB 3 (b__law_any )) :=
  okD D sc__law_any fun f cdv A outer s H E B => ⟨_, (bl_cons (st_asg (pd_fz (pc_lst (pl_cons pd_int pl_nil))) (tg_n 1 sc__law_any.nd))
    (bl_cons (st_for B.own B.calm (it_rng2 T.b_range (pl_cons pd_int (pl_cons pd_int pl_nil))) (tg_n 2 sc__law_any.nd) (bl_one (st_asg (pd_fz (pc_cat (pd_var 1) (pd_fz (pc_lst (pl_cons (pd_var 2) (pl_cons (pd_neg (pd_var 2)) pl_nil)))))) (tg_n 1 sc__law_any.nd))))
    (bl_cons (st_asg (pd_fz (pc_cat (pd_var 1) (pd_fz (pc_lst (pl_cons pd_str (pl_cons (pd_fz (pc_lst pl_nil)) (pl_cons (pd_fz pc_dct0) pl_nil))))))) (tg_n 1 sc__law_any.nd))
    (bl_cons (st_if (pb_cmp od_eqF (pd_var 0) pd_int) (bl_one (st_asg (pd_fz (pc_lst (pl_cons pd_str (pl_cons pd_str (pl_cons (pd_fz (pc_lst (pl_cons pd_int pl_nil))) (pl_cons (pd_fz (pc_lst (pl_cons pd_int pl_nil))) (pl_cons (pd_fz (pc_lst (pl_cons pd_str pl_nil))) (pl_cons (pd_fz (pc_lst (pl_cons (pd_fz (pc_lst pl_nil)) pl_nil))) (pl_cons (pd_fz (pc_lst (pl_cons (pd_fz pc_dct0) pl_nil))) (pl_cons (pd_fz (pc_disp (pps_c pd_str pd_int pps_n))) (pl_cons (pd_fz (pc_disp (pps_c pd_str pd_str pps_n))) (pl_cons (pd_fz (pc_disp (pps_c pd_str pd_int pps_n))) (pl_cons (pd_tup (pl_cons pd_str (pl_cons pd_int pl_nil))) (pl_cons (pd_tup (pl_cons pd_str (pl_cons pd_int pl_nil))) (pl_cons (pd_tup (pl_cons pd_str (pl_cons pd_str pl_nil))) (pl_cons (pd_tup (pl_cons pd_str (pl_cons (pd_fz (pc_lst pl_nil)) pl_nil))) pl_nil)))))))))))))))) (tg_n 1 sc__law_any.nd))) bl_nil)
    (bl_cons (st_if (pb_cmp od_eqF (pd_var 0) pd_int) (bl_one (st_asg (pd_fz (pc_lst (pl_cons pd_str (pl_cons (pd_fz (pc_lst (pl_cons pd_int (pl_cons pd_int pl_nil)))) (pl_cons (pd_fz (pc_lst (pl_cons pd_str pl_nil))) (pl_cons (pd_fz (pc_lst (pl_cons (pd_fz (pc_lst (pl_cons pd_int pl_nil))) pl_nil))) (pl_cons (pd_fz (pc_disp (pps_c pd_str pd_int (pps_c pd_str pd_int pps_n)))) (pl_cons (pd_fz (pc_disp (pps_c pd_str pd_str pps_n))) (pl_cons (pd_tup (pl_cons pd_str (pl_cons pd_str pl_nil))) (pl_cons (pd_tup (pl_cons pd_str (pl_cons (pd_fz (pc_lst (pl_cons pd_int pl_nil))) pl_nil))) pl_nil)))))))))) (tg_n 1 sc__law_any.nd))) bl_nil)
    (bl_cons (st_if (pb_cmp od_gt (pd_var 0) pd_int) (bl_one (st_asg (pd_fz (pc_lst (pl_cons (pd_fz (pc_rep (pd_fz (pc_lst (pl_cons pd_int pl_nil))) (pd_bin od_sub (pd_var 0) pd_int))) (pl_cons (pd_bin od_mulS pd_str (pd_bin od_sub (pd_var 0) pd_int)) pl_nil)))) (tg_n 1 sc__law_any.nd))) bl_nil)
    (bl_one (st_ret (pd_var 1)))))))))⟩
/-! ### _law_lists -/
abbrev s__law_lists : Stmt := top 42
theorem sc__law_lists : FnScope ["table", "definition", "size", "rows", "found", "length", "longer", "row", "more", "part"] ["table", "definition", "size"] (defScope s__law_lists) := ⟨rfl, rfl, rfl, by decide +kernel, rfl, by decide +kernel, by decide +kernel⟩
theorem ok__law_lists {k : Nat}  (T : Txt K w mg) (D : Dx K mg "_law_lists" s__law_lists ["table", "definition", "size"])  : Fn P w K mg base (k + 1) "_law_lists" 3 (fnB 10 (b__law_lists )) :=
  okD D sc__law_lists fun f cdv A outer s H E B => ⟨_, (bl_cons (st_asg (pd_fz (pc_lst (pl_cons (pd_tup (pl_cons (pd_fz (pc_lst pl_nil)) (pl_cons pd_int pl_nil))) pl_nil))) (tg_n 3 sc__law_lists.nd))
    (bl_cons (st_asg (pd_fz (pc_lst pl_nil)) (tg_n 4 sc__law_lists.nd))
    (bl_cons (st_for B.own B.calm (it_rng1 T.b_range (pl_cons (pd_bin od_add (pd_ix B.toBd.hu (pd_var 1) pd_int) pd_int) pl_nil)) (tg_n 5 sc__law_lists.nd) (bl_cons (st_asg (pd_fz (pc_cat (pd_var 4) (pd_fz (pc_lc (plc (own := [("row", 7)]) (N := ["table", "definition", "size", "rows", "found", "length", "longer", "row", "more", "part"]) (sc := defScope s__law_lists) B.toBd sc__law_lists.nd (it_lst (pd_var 3)) (by decide +kernel) (fun _ _ _ _ _ => (tg_n 7 sc__law_lists.nd)) (fun _ _ _ _ _ Bx => (pts1 (pb_bool (pwb_and (pb_cmp od_ge (pd_var 5) (pd_ix Bx.hu (pd_var 1) pd_int)) (pw1_and (pb_cmp od_eqF (pd_ix Bx.hu (pd_var 7) pd_int) (pd_bin od_sub (pd_var 2) pd_int))))))) (fun _ _ _ _ _ Bx => (pd_ix Bx.hu (pd_var 7) pd_int))))))) (tg_n 4 sc__law_lists.nd))
    (bl_cons (st_asg (pd_new (pc_lst pl_nil)) (tg_n 6 sc__law_lists.nd))
    (bl_cons (st_for B.own B.calm (it_lst (pd_var 3)) (tg_n 7 sc__law_lists.nd) (bl_one (st_for B.own B.calm (it_rng2 T.b_range (pl_cons pd_int (pl_cons (pd_bin od_sub (pd_var 2) (pd_ix B.toBd.hu (pd_var 7) pd_int)) pl_nil))) (tg_n 8 sc__law_lists.nd) (bl_one (st_for B.own B.calm (it_lst (pd_ixU B.toBd.hu (pd_var 0) (pd_tup (pl_cons (pd_ix B.toBd.hu (pd_var 1) pd_int) (pl_cons (pd_var 8) pl_nil))))) (tg_n 9 sc__law_lists.nd) (bl_one (st_expr (pd_BM mi_append (pd_var 6) (pl_cons (pd_tup (pl_cons (pd_fz (pc_cat (pd_ix B.toBd.hu (pd_var 7) pd_int) (pd_fz (pc_lst (pl_cons (pd_var 9) pl_nil))))) (pl_cons (pd_bin od_add (pd_ix B.toBd.hu (pd_var 7) pd_int) (pd_var 8)) pl_nil))) pl_nil)))))))))
    (bl_cons (st_if (pb_cmp od_gt (pd_B bi_len T.b_len (by decide +kernel) (pl_cons (pd_var 6) pl_nil)) pd_int) (bl_one (st_ret (pd_fz (pc_rep (pd_fz (pc_lst (pl_cons pd_int pl_nil))) pd_int)))) bl_nil)
    (bl_fz 6 (bl_one (st_asg (pd_var 6) (tg_n 3 sc__law_lists.nd)))))))))
    (bl_one (st_ret (pd_var 4))))))⟩
/-! ### _law_records -/
abbrev s__law_records : Stmt := top 43
theorem sc__law_records : FnScope ["table", "definition", "size", "rows", "field", "longer", "row", "more", "part", "record"] ["table", "definition", "size"] (defScope s__law_records) := ⟨rfl, rfl, rfl, by decide +kernel, rfl, by decide +kernel, by decide +kernel⟩
theorem ok__law_records {k : Nat} {f__law_always : FN} (T : Txt K w mg) (D : Dx K mg "_law_records" s__law_records ["table", "definition", "size"]) (h__law_always : Fn P w K mg base k "_law_always" 1 f__law_always) : Fn P w K mg base (k + 1) "_law_records" 3 (fnB 10 (b__law_records f__law_always)) :=
  okD D sc__law_records fun f cdv A outer s H E B => ⟨_, (bl_cons (st_asg (pd_fz (pc_lst (pl_cons (pd_tup (pl_cons (pd_fz pc_dct0) (pl_cons pd_int pl_nil))) pl_nil))) (tg_n 3 sc__law_records.nd))
    (bl_cons (st_for B.own B.calm (it_tup (pd_ix B.toBd.hu (pd_var 1) pd_int)) (tg_n 4 sc__law_records.nd) (bl_cons (st_asg (pd_new (pc_lst pl_nil)) (tg_n 5 sc__law_records.nd))
    (bl_cons (st_for B.own B.calm (it_lst (pd_var 3)) (tg_n 6 sc__law_records.nd) (bl_cons (st_if (pb_not (pb_truth (pd_def B.toBd h__law_always (pl_cons (pd_var 4) pl_nil) (alen_cons alen_nil)))) (bl_one (st_expr (pd_BM mi_append (pd_var 5) (pl_cons (pd_var 6) pl_nil)))) bl_nil)
    (bl_one (st_for B.own B.calm (it_rng2 T.b_range (pl_cons pd_int (pl_cons (pd_bin od_sub (pd_var 2) (pd_ix B.toBd.hu (pd_var 6) pd_int)) pl_nil))) (tg_n 7 sc__law_records.nd) (bl_one (st_for B.own B.calm (it_lst (pd_ixU B.toBd.hu (pd_var 0) (pd_tup (pl_cons (pd_ix B.toBd.hu (pd_var 4) pd_int) (pl_cons (pd_var 7) pl_nil))))) (tg_n 8 sc__law_records.nd) (bl_cons (st_asg (pd_new (pc_Ty bn_dict T.b_dict (by decide +kernel) (pl_cons (pd_ix B.toBd.hu (pd_var 6) pd_int) pl_nil))) (tg_n 9 sc__law_records.nd))
    (bl_cons (st_setD B.toBd.hu (pd_var 8) (pd_var 9) (pd_ix B.toBd.hu (pd_var 4) pd_int))
    (bl_fz 9 (bl_one (st_expr (pd_BM mi_append (pd_var 5) (pl_cons (pd_tup (pl_cons (pd_var 9) (pl_cons (pd_bin od_add (pd_ix B.toBd.hu (pd_var 6) pd_int) (pd_var 7)) pl_nil))) pl_nil)))))))))))))
    (bl_cons (st_if (pb_cmp od_gt (pd_B bi_len T.b_len (by decide +kernel) (pl_cons (pd_var 5) pl_nil)) pd_int) (bl_one (st_ret (pd_fz (pc_rep (pd_fz (pc_lst (pl_cons pd_int pl_nil))) pd_int)))) bl_nil)
    (bl_fz 5 (bl_one (st_asg (pd_var 5) (tg_n 3 sc__law_records.nd))))))))
    (bl_one (st_ret (pd_fz (pc_lc (plc (own := [("row", 6)]) (N := ["table", "definition", "size", "rows", "field", "longer", "row", "more", "part", "record"]) (sc := defScope s__law_records) B.toBd sc__law_records.nd (it_lst (pd_var 3)) (by decide +kernel) (fun _ _ _ _ _ => (tg_n 6 sc__law_records.nd)) (fun _ _ _ _ _ Bx => (pts1 (pb_cmp od_eqF (pd_ix Bx.hu (pd_var 6) pd_int) (pd_bin od_sub (pd_var 2) pd_int)))) (fun _ _ _ _ _ Bx => (pd_ix Bx.hu (pd_var 6) pd_int)))))))))⟩
/-! ### _law_sized -/
abbrev s__law_sized : Stmt := top 44
theorem sc__law_sized : FnScope ["definition", "table", "size", "found", "case", "part"] ["definition", "table", "size"] (defScope s__law_sized) := ⟨rfl, rfl, rfl, by decide +kernel, rfl, by decide +kernel, by decide +kernel⟩
theorem ok__law_sized {k : Nat} {f__law_any f__law_lists f__law_records : FN} (T : Txt K w mg) (D : Dx K mg "_law_sized" s__law_sized ["definition", "table", "size"]) (h__law_any : Fn P w K mg base k "_law_any" 1 f__law_any) (h__law_lists : Fn P w K mg base k "_law_lists" 3 f__law_lists) (h__law_records : Fn P w K mg base k "_law_records" 3 f__law_records) : Fn P w K mg base (k + 1) "_law_sized" 3 (fnB 6 (b__law_sized f__law_any f__law_lists f__law_records)) :=
  okD D sc__law_sized fun f cdv A outer s H E B => ⟨_, (bl_cons (st_if (pb_cmp od_eqF (pd_ix B.toBd.hu (pd_var 0) pd_int) pd_str) (bl_one (st_ret (pd_def B.toBd h__law_any (pl_cons (pd_var 2) pl_nil) (alen_cons alen_nil)))) bl_nil)
    (bl_cons (st_if (pb_cmp od_eqF (pd_ix B.toBd.hu (pd_var 0) pd_int) pd_str) (bl_one (st_ret (pd_fz (pc_rep (pd_fz (pc_lstRg B.toBd.calm T.b_list T.b_range (pd_ix B.toBd.hu (pd_var 0) pd_int) (pd_bin od_add (pd_ix B.toBd.hu (pd_var 0) pd_int) pd_int))) (pd_Ty bi_int T.b_int (by decide +kernel) (pl_cons (pd_cmp od_eqF (pd_var 2) pd_int) pl_nil)))))) bl_nil)
    (bl_cons (st_if (pb_cmp od_eqF (pd_ix B.toBd.hu (pd_var 0) pd_int) pd_str) (bl_cons (st_if (pb_cmp od_gt (pd_var 2) (pd_bin od_add (pd_ix B.toBd.hu (pd_var 0) pd_int) pd_int)) (bl_one (st_ret (pd_fz (pc_lst pl_nil)))) bl_nil)
    (bl_one (st_ret (pd_fz (pc_slL (pd_fz (pc_lst (pl_cons (pd_ix B.toBd.hu (pd_fz (pc_lst (pl_cons pd_str (pl_cons pd_str (pl_cons pd_str pl_nil))))) (pd_bin od_sub (pd_var 2) pd_int)) (pl_cons (pd_bin od_mulS pd_str (pd_bin od_sub (pd_var 2) pd_int)) pl_nil)))) po_n (po_s (pd_var 2))))))) bl_nil)
    (bl_cons (st_if (pb_cmp od_eqF (pd_ix B.toBd.hu (pd_var 0) pd_int) pd_str) (bl_one (st_ret (pd_def B.toBd h__law_lists (pl_cons (pd_var 1) (pl_cons (pd_var 0) (pl_cons (pd_var 2) pl_nil))) (alen_cons (alen_cons (alen_cons alen_nil)))))) bl_nil)
    (bl_cons (st_if (pb_cmp od_eqF (pd_ix B.toBd.hu (pd_var 0) pd_int) pd_str) (bl_one (st_ret (pd_def B.toBd h__law_records (pl_cons (pd_var 1) (pl_cons (pd_var 0) (pl_cons (pd_var 2) pl_nil))) (alen_cons (alen_cons (alen_cons alen_nil)))))) bl_nil)
    (bl_cons (st_asg (pd_fz (pc_lst pl_nil)) (tg_n 3 sc__law_sized.nd))
    (bl_cons (st_for B.own B.calm (it_tup (pd_ix B.toBd.hu (pd_var 0) pd_int)) (tg_n 4 sc__law_sized.nd) (bl_one (st_if (pb_cmp od_gt (pd_var 2) pd_int) (bl_one (st_asg (pd_fz (pc_cat (pd_var 3) (pd_fz (pc_lc (plc (own := [("part", 5)]) (N := ["definition", "table", "size", "found", "case", "part"]) (sc := defScope s__law_sized) B.toBd sc__law_sized.nd (it_lst (pd_ixU B.toBd.hu (pd_var 1) (pd_tup (pl_cons (pd_ix B.toBd.hu (pd_var 4) pd_int) (pl_cons (pd_bin od_sub (pd_var 2) pd_int) pl_nil))))) (by decide +kernel) (fun _ _ _ _ _ => (tg_n 5 sc__law_sized.nd)) (fun _ _ _ _ _ Bx => pts0) (fun _ _ _ _ _ Bx => (pd_tup (pl_cons (pd_ix Bx.hu (pd_var 4) pd_int) (pl_cons (pd_var 5) pl_nil))))))))) (tg_n 3 sc__law_sized.nd))) bl_nil)))
    (bl_one (st_ret (pd_var 3))))))))))⟩
/-! ### _law_table -/
abbrev s__law_table : Stmt := top 45
theorem sc__law_table : FnScope ["definitions", "most", "table", "size", "fresh", "name"] ["definitions", "most"] (defScope s__law_table) := ⟨rfl, rfl, rfl, by decide +kernel, rfl, by decide +kernel, by decide +kernel⟩
theorem ok__law_table {k : Nat} {f__law_sized : FN} (T : Txt K w mg) (D : Dx K mg "_law_table" s__law_table ["definitions", "most"]) (h__law_sized : Fn P w K mg base k "_law_sized" 3 f__law_sized) : Fn P w K mg base (k + 1) "_law_table" 2 (fnB 6 (b__law_table f__law_sized)) :=
  okD D sc__law_table fun f cdv A outer s H E B => ⟨_, (bl_cons (st_asg (pd_new pc_dcu0) (tg_n 2 sc__law_table.nd))
    (bl_cons (st_for B.own B.calm (it_rng2 T.b_range (pl_cons pd_int (pl_cons (pd_bin od_add (pd_var 1) pd_int) pl_nil))) (tg_n 3 sc__law_table.nd) (bl_cons (st_asg (pd_new pc_dct0) (tg_n 4 sc__law_table.nd))
    (bl_cons (st_for B.own B.calm (it_lst (pd_fz (pc_B bn_sorted T.b_sorted (by decide +kernel) (pl_cons (pd_var 0) pl_nil)))) (tg_n 5 sc__law_table.nd) (bl_cons (st_setD B.toBd.hu (pd_def B.toBd h__law_sized (pl_cons (pd_ix B.toBd.hu (pd_var 0) (pd_var 5)) (pl_cons (pd_var 2) (pl_cons (pd_var 3) pl_nil))) (alen_cons (alen_cons (alen_cons alen_nil)))) (pd_var 4) (pd_var 5))
    (bl_one (st_if (pb_cmp od_gt (pd_B bi_len T.b_len (by decide +kernel) (pl_cons (pd_ix B.toBd.hu (pd_var 4) (pd_var 5)) pl_nil)) pd_int) (bl_one (st_ret (pd_var 2))) bl_nil))))
    (bl_fz 4 (bl_one (st_forK 4 B.own B.calm (tg_n 5 sc__law_table.nd) (bl_one (st_setU B.toBd.hu (pd_ix B.toBd.hu (pd_var 4) (pd_var 5)) (pd_var 2) (pd_tup (pl_cons (pd_var 5) (pl_cons (pd_var 3) pl_nil)))))))))))
    (bl_one (st_ret (pd_var 2)))))⟩
/-! ### _law_definition -/
abbrev s__law_definition : Stmt := top 46
theorem sc__law_definition : FnScope ["box", "names", "kind", "types", "many", "cases", "least", "shortest", "fields", "place", "turn", "presence", "field"] ["box", "names"] (defScope s__law_definition) := ⟨rfl, rfl, rfl, by decide +kernel, rfl, by decide +kernel, by decide +kernel⟩
theorem ok__law_definition {k : Nat} {f__law_draw : FN} (T : Txt K w mg) (D : Dx K mg "_law_definition" s__law_definition ["box", "names"]) (h__law_draw : Fn P w K mg base k "_law_draw" 2 f__law_draw) : Fn P w K mg base (k + 1) "_law_definition" 2 (fnB 13 (b__law_definition f__law_draw)) :=
  okD D sc__law_definition fun f cdv A outer s H E B => ⟨_, (bl_cons (st_asg (pd_def B.toBd h__law_draw (pl_cons (pd_var 0) (pl_cons pd_int pl_nil)) (alen_cons (alen_cons alen_nil))) (tg_n 2 sc__law_definition.nd))
    (bl_cons (st_asg (pd_fz (pc_lc (plc (own := [("turn", 10)]) (N := ["box", "names", "kind", "types", "many", "cases", "least", "shortest", "fields", "place", "turn", "presence", "field"]) (sc := defScope s__law_definition) B.toBd sc__law_definition.nd (it_rng1 T.b_range (pl_cons pd_int pl_nil)) (by decide +kernel) (fun _ _ _ _ _ => (tg_n 10 sc__law_definition.nd)) (fun _ _ _ _ _ Bx => pts0) (fun _ _ _ _ _ Bx => (pd_ix Bx.hu (pd_var 1) (pd_bin od_mod (pd_Ty bi_int T.b_int (by decide +kernel) (pl_cons (pd_def Bx h__law_draw (pl_cons (pd_var 0) (pl_cons pd_int pl_nil)) (alen_cons (alen_cons alen_nil))) pl_nil)) (pd_B bi_len T.b_len (by decide +kernel) (pl_cons (pd_var 1) pl_nil)))))))) (tg_n 3 sc__law_definition.nd))
    (bl_cons (st_if (pb_cmp od_eqF (pd_var 2) pd_int) (bl_one (st_ret (pd_tup (pl_cons pd_str pl_nil)))) bl_nil)
    (bl_cons (st_if (pb_cmp od_lt (pd_var 2) pd_int) (bl_cons (st_asg (pd_bin od_sub (pd_def B.toBd h__law_draw (pl_cons (pd_var 0) (pl_cons pd_int pl_nil)) (alen_cons (alen_cons alen_nil))) pd_int) (tg_n 6 sc__law_definition.nd))
    (bl_one (st_ret (pd_tup (pl_cons pd_str (pl_cons (pd_var 6) (pl_cons (pd_bin od_add (pd_var 6) (pd_def B.toBd h__law_draw (pl_cons (pd_var 0) (pl_cons pd_int pl_nil)) (alen_cons (alen_cons alen_nil)))) pl_nil))))))) bl_nil)
    (bl_cons (st_if (pb_cmp od_eqF (pd_var 2) pd_int) (bl_one (st_ret (pd_tup (pl_cons pd_str (pl_cons (pd_def B.toBd h__law_draw (pl_cons (pd_var 0) (pl_cons pd_int pl_nil)) (alen_cons (alen_cons alen_nil))) pl_nil))))) bl_nil)
    (bl_cons (st_if (pb_cmp od_lt (pd_var 2) pd_int) (bl_cons (st_asg (pd_def B.toBd h__law_draw (pl_cons (pd_var 0) (pl_cons pd_int pl_nil)) (alen_cons (alen_cons alen_nil))) (tg_n 7 sc__law_definition.nd))
    (bl_one (st_ret (pd_tup (pl_cons pd_str (pl_cons (pd_ix B.toBd.hu (pd_var 3) pd_int) (pl_cons (pd_var 7) (pl_cons (pd_bin od_add (pd_var 7) (pd_def B.toBd h__law_draw (pl_cons (pd_var 0) (pl_cons pd_int pl_nil)) (alen_cons (alen_cons alen_nil)))) pl_nil)))))))) bl_nil)
    (bl_cons (st_asg (pd_def B.toBd h__law_draw (pl_cons (pd_var 0) (pl_cons pd_int pl_nil)) (alen_cons (alen_cons alen_nil))) (tg_n 4 sc__law_definition.nd))
    (bl_cons (st_if (pb_cmp od_lt (pd_var 2) pd_int) (bl_cons (st_asg (pd_new (pc_lst pl_nil)) (tg_n 8 sc__law_definition.nd))
    (bl_cons (st_for B.own B.calm (it_rng1 T.b_range (pl_cons (pd_var 4) pl_nil)) (tg_n 9 sc__law_definition.nd) (bl_cons (st_asg (pd_ix B.toBd.hu (pd_fz (pc_lst (pl_cons pd_str (pl_cons pd_str (pl_cons pd_str (pl_cons pd_str pl_nil)))))) (pd_def B.toBd h__law_draw (pl_cons (pd_var 0) (pl_cons pd_int pl_nil)) (alen_cons (alen_cons alen_nil)))) (tg_n 11 sc__law_definition.nd))
    (bl_one (st_expr (pd_BM mi_append (pd_var 8) (pl_cons (pd_tup (pl_cons (pd_ix B.toBd.hu (pd_fz (pc_lst (pl_cons pd_str (pl_cons pd_str (pl_cons pd_str pl_nil))))) (pd_var 9)) (pl_cons (pd_ix B.toBd.hu (pd_var 3) (pd_var 9)) (pl_cons (pd_var 11) pl_nil)))) pl_nil))))))
    (bl_fz 8 (bl_one (st_ret (pd_tup (pl_cons pd_str (pl_cons (pd_tupL T.b_tuple (pd_fz (pc_lc (plc (own := [("field", 12)]) (N := ["box", "names", "kind", "types", "many", "cases", "least", "shortest", "fields", "place", "turn", "presence", "field"]) (sc := defScope s__law_definition) B.toBd sc__law_definition.nd (it_lst (pd_var 8)) (by decide +kernel) (fun _ _ _ _ _ => (tg_n 12 sc__law_definition.nd)) (fun _ _ _ _ _ Bx => (pts1 (pb_cmp od_gt (pd_def Bx h__law_draw (pl_cons (pd_var 0) (pl_cons pd_int pl_nil)) (alen_cons (alen_cons alen_nil))) pd_int))) (fun _ _ _ _ _ Bx => (pd_var 12)))))) pl_nil)))))))) bl_nil)
    (bl_cons (have q := (plc (own := [("place", 9)]) (N := ["box", "names", "kind", "types", "many", "cases", "least", "shortest", "fields", "place", "turn", "presence", "field"]) (sc := defScope s__law_definition) B.toBd sc__law_definition.nd (it_rng1 T.b_range (pl_cons (pd_B bi_maxL T.b_max (by decide +kernel) (pl_cons (pd_fz (pc_lst (pl_cons pd_int (pl_cons (pd_var 4) pl_nil)))) pl_nil)) pl_nil)) (by decide +kernel) (fun _ _ _ _ _ => (tg_n 9 sc__law_definition.nd)) (fun _ _ _ _ _ Bx => (pts1 (pb_bool (pwb_or (pb_cmp od_eqF (pd_var 9) pd_int) (pw1_or (pb_cmp od_gt (pd_def Bx h__law_draw (pl_cons (pd_var 0) (pl_cons pd_int pl_nil)) (alen_cons (alen_cons alen_nil))) pd_int)))))) (fun _ _ _ _ _ Bx => (pd_tup (pl_cons (pd_ix Bx.hu (pd_fz (pc_lst (pl_cons pd_str (pl_cons pd_str (pl_cons pd_str pl_nil))))) (pd_var 9)) (pl_cons (pd_ix Bx.hu (pd_var 3) (pd_var 9)) pl_nil))))); st_lc 5 q (eok_fz q.ok) (sw_true rfl rfl rfl (by decide +kernel)))
    (bl_one (st_ret (pd_tup (pl_cons pd_str (pl_cons (pd_tupL T.b_tuple (pd_var 5)) (pl_cons (pd_ix B.toBd.hu (pd_fz (pc_lst (pl_cons pd_non (pl_cons pd_str pl_nil)))) (pd_def B.toBd h__law_draw (pl_cons (pd_var 0) (pl_cons pd_int pl_nil)) (alen_cons (alen_cons alen_nil)))) pl_nil)))))))))))))))⟩
/-! ### _law_filled -/
abbrev s__law_filled : Stmt := top 47
theorem sc__law_filled : FnScope ["box", "definitions", "table", "told", "name", "definition", "fields", "field", "known", "fallback"] ["box", "definitions"] (defScope s__law_filled) := ⟨rfl, rfl, rfl, by decide +kernel, rfl, by decide +kernel, by decide +kernel⟩
theorem ok__law_filled {k : Nat} {f__law_table f__law_draw : FN} (T : Txt K w mg) (D : Dx K mg "_law_filled" s__law_filled ["box", "definitions"]) (h__law_table : Fn P w K mg base k "_law_table" 2 f__law_table) (h__law_draw : Fn P w K mg base k "_law_draw" 2 f__law_draw) : Fn P w K mg base (k + 1) "_law_filled" 2 (fnB 10 (b__law_filled f__law_table f__law_draw)) :=
  okD D sc__law_filled fun f cdv A outer s H E B => ⟨_, (bl_cons (st_asg (pd_def B.toBd h__law_table (pl_cons (pd_var 1) (pl_cons pd_int pl_nil)) (alen_cons (alen_cons alen_nil))) (tg_n 2 sc__law_filled.nd))
    (bl_cons (st_asg (pd_new pc_dct0) (tg_n 3 sc__law_filled.nd))
    (bl_cons (st_for B.own B.calm (it_lst (pd_fz (pc_B bn_sorted T.b_sorted (by decide +kernel) (pl_cons (pd_var 1) pl_nil)))) (tg_n 4 sc__law_filled.nd) (bl_cons (st_asg (pd_ix B.toBd.hu (pd_var 1) (pd_var 4)) (tg_n 5 sc__law_filled.nd))
    (bl_cons (st_if (pb_cmp od_eqF (pd_ix B.toBd.hu (pd_var 5) pd_int) pd_str) (bl_cons (st_asg (pd_new (pc_lst pl_nil)) (tg_n 6 sc__law_filled.nd))
    (bl_cons (st_for B.own B.calm (it_tup (pd_ix B.toBd.hu (pd_var 5) pd_int)) (tg_n 7 sc__law_filled.nd) (bl_cons (st_if (pb_cmp od_eqF (pd_ix B.toBd.hu (pd_var 7) pd_int) pd_str) (bl_cons (st_asg (pd_fz (pc_cat (pd_fz (pc_cat (pd_getU B.toBd.hu (pd_var 2) (pd_tup (pl_cons (pd_ix B.toBd.hu (pd_var 7) pd_int) (pl_cons pd_int pl_nil))) (pd_fz (pc_lst pl_nil))) (pd_getU B.toBd.hu (pd_var 2) (pd_tup (pl_cons (pd_ix B.toBd.hu (pd_var 7) pd_int) (pl_cons pd_int pl_nil))) (pd_fz (pc_lst pl_nil))))) (pd_getU B.toBd.hu (pd_var 2) (pd_tup (pl_cons (pd_ix B.toBd.hu (pd_var 7) pd_int) (pl_cons pd_int pl_nil))) (pd_fz (pc_lst pl_nil))))) (tg_n 8 sc__law_filled.nd))
    (bl_one (st_if (pb_truth (pd_var 8)) (bl_one (st_asg (pd_tup (pl_cons (pd_ix B.toBd.hu (pd_var 7) pd_int) (pl_cons (pd_ix B.toBd.hu (pd_var 7) pd_int) (pl_cons pd_str (pl_cons (pd_ix B.toBd.hu (pd_var 8) (pd_bin od_mod (pd_Ty bi_int T.b_int (by decide +kernel) (pl_cons (pd_def B.toBd h__law_draw (pl_cons (pd_var 0) (pl_cons pd_int pl_nil)) (alen_cons (alen_cons alen_nil))) pl_nil)) (pd_B bi_len T.b_len (by decide +kernel) (pl_cons (pd_var 8) pl_nil)))) pl_nil))))) (tg_n 7 sc__law_filled.nd))) (bl_one (st_asg (pd_tup (pl_cons (pd_ix B.toBd.hu (pd_var 7) pd_int) (pl_cons (pd_ix B.toBd.hu (pd_var 7) pd_int) (pl_cons pd_str pl_nil)))) (tg_n 7 sc__law_filled.nd)))))) bl_nil)
    (bl_one (st_expr (pd_BM mi_append (pd_var 6) (pl_cons (pd_var 7) pl_nil))))))
    (bl_fz 6 (bl_one (st_asg (pd_tup (pl_cons pd_str (pl_cons (pd_tupL T.b_tuple (pd_var 6)) pl_nil))) (tg_n 5 sc__law_filled.nd)))))) bl_nil)
    (bl_cons (st_if (pb_bool (pwb_and (pb_cmp od_eqF (pd_ix B.toBd.hu (pd_var 5) pd_int) pd_str) (pw1_and (pb_cmp od_isNot (pd_ix B.toBd.hu (pd_var 5) pd_int) pd_non)))) (bl_cons (st_asg (pd_fz (pc_cat (pd_getU B.toBd.hu (pd_var 2) (pd_tup (pl_cons (pd_var 4) (pl_cons pd_int pl_nil))) (pd_fz (pc_lst pl_nil))) (pd_getU B.toBd.hu (pd_var 2) (pd_tup (pl_cons (pd_var 4) (pl_cons pd_int pl_nil))) (pd_fz (pc_lst pl_nil))))) (tg_n 8 sc__law_filled.nd))
    (bl_cons (st_asg pd_non (tg_n 9 sc__law_filled.nd))
    (bl_cons (st_if (pb_truth (pd_var 8)) (bl_one (st_asg (pd_ix B.toBd.hu (pd_var 8) (pd_bin od_mod (pd_Ty bi_int T.b_int (by decide +kernel) (pl_cons (pd_def B.toBd h__law_draw (pl_cons (pd_var 0) (pl_cons pd_int pl_nil)) (alen_cons (alen_cons alen_nil))) pl_nil)) (pd_B bi_len T.b_len (by decide +kernel) (pl_cons (pd_var 8) pl_nil)))) (tg_n 9 sc__law_filled.nd))) bl_nil)
    (bl_one (st_asg (pd_tup (pl_cons pd_str (pl_cons (pd_ix B.toBd.hu (pd_var 5) pd_int) (pl_cons (pd_var 9) pl_nil)))) (tg_n 5 sc__law_filled.nd)))))) bl_nil)
    (bl_one (st_setD B.toBd.hu (pd_var 5) (pd_var 3) (pd_var 4)))))))
    (bl_fz 3 (bl_one (st_ret (pd_var 3)))))))⟩
/-! ### _law_plain -/
abbrev s__law_plain : Stmt := top 48
theorem sc__law_plain : FnScope ["box", "names", "definitions", "name"] ["box"] (defScope s__law_plain) := ⟨rfl, rfl, rfl, by decide +kernel, rfl, by decide +kernel, by decide +kernel⟩
theorem ok__law_plain {k : Nat} {f__law_definition f__law_draw : FN} (T : Txt K w mg) (D : Dx K mg "_law_plain" s__law_plain ["box"]) (h__law_definition : Fn P w K mg base k "_law_definition" 2 f__law_definition) (h__law_draw : Fn P w K mg base k "_law_draw" 2 f__law_draw) : Fn P w K mg base (k + 1) "_law_plain" 1 (fnB 4 (b__law_plain f__law_definition f__law_draw)) :=
  okD D sc__law_plain fun f cdv A outer s H E B => ⟨_, (bl_cons (st_asg (pd_fz (pc_slL (pd_fz (pc_lst (pl_cons pd_str (pl_cons pd_str (pl_cons pd_str (pl_cons pd_str pl_nil)))))) po_n (po_s (pd_bin od_add pd_int (pd_def B.toBd h__law_draw (pl_cons (pd_var 0) (pl_cons pd_int pl_nil)) (alen_cons (alen_cons alen_nil))))))) (tg_n 1 sc__law_plain.nd))
    (bl_cons (st_asg (pd_new pc_dct0) (tg_n 2 sc__law_plain.nd))
    (bl_cons (st_for B.own B.calm (it_lst (pd_var 1)) (tg_n 3 sc__law_plain.nd) (bl_one (st_setD B.toBd.hu (pd_def B.toBd h__law_definition (pl_cons (pd_var 0) (pl_cons (pd_var 1) pl_nil)) (alen_cons (alen_cons alen_nil))) (pd_var 2) (pd_var 3))))
    (bl_fz 2 (bl_one (st_ret (pd_var 2)))))))⟩
/-! ### _law_format -/
abbrev s__law_format : Stmt := top 49
theorem sc__law_format : FnScope ["box", "definitions"] ["box"] (defScope s__law_format) := ⟨rfl, rfl, rfl, by decide +kernel, rfl, by decide +kernel, by decide +kernel⟩
theorem ok__law_format {k : Nat} {f__law_filled f_Format___init__ f__law_plain f__law_draw : FN} (T : Txt K w mg) (D : Dx K mg "_law_format" s__law_format ["box"]) (h__law_filled : Fn P w K mg base (k + 1) "_law_filled" 2 f__law_filled) (h_Format___init__ : FnI P w K mg base k "Format" 3 f_Format___init__) (h__law_plain : Fn P w K mg base (k + 1) "_law_plain" 1 f__law_plain) (h__law_draw : Fn P w K mg base (k + 1) "_law_draw" 2 f__law_draw) : Fn P w K mg base (k + 2) "_law_format" 1 (fnB 2 (b__law_format f__law_filled f_Format___init__ f__law_plain f__law_draw)) :=
  okD D sc__law_format fun f cdv A outer s H E B => ⟨_, (bl_cons (st_asg (pd_def B.toBd h__law_filled (pl_cons (pd_var 0) (pl_cons (pd_def B.toBd h__law_plain (pl_cons (pd_var 0) pl_nil) (alen_cons alen_nil)) pl_nil)) (alen_cons (alen_cons alen_nil))) (tg_n 1 sc__law_format.nd))
    (bl_one (st_ret (pd_make B.toBd h_Format___init__ (pl_cons (pd_ix B.toBd.hu (pd_fz (pc_B bn_sorted T.b_sorted (by decide +kernel) (pl_cons (pd_var 1) pl_nil))) (pd_bin od_mod (pd_Ty bi_int T.b_int (by decide +kernel) (pl_cons (pd_def B.toBd h__law_draw (pl_cons (pd_var 0) (pl_cons pd_int pl_nil)) (alen_cons (alen_cons alen_nil))) pl_nil)) (pd_B bi_len T.b_len (by decide +kernel) (pl_cons (pd_var 1) pl_nil)))) (pl_cons (pd_var 1) pl_nil)) (alen_cons (alen_cons alen_nil))))))⟩
/-! ### _law_bare -/
abbrev s__law_bare : Stmt := top 50
theorem sc__law_bare : FnScope ["definitions", "told", "name", "definition", "field"] ["definitions"] (defScope s__law_bare) := ⟨rfl, rfl, rfl, by decide +kernel, rfl, by decide +kernel, by decide +kernel⟩
theorem ok__law_bare {k : Nat}  (T : Txt K w mg) (D : Dx K mg "_law_bare" s__law_bare ["definitions"])  : Fn P w K mg base (k + 1) "_law_bare" 1 (fnB 5 (b__law_bare )) :=
  okD D sc__law_bare fun f cdv A outer s H E B => ⟨_, (bl_cons (st_asg (pd_new pc_dct0) (tg_n 1 sc__law_bare.nd))
    (bl_cons (st_forK 0 B.own B.calm (tg_n 2 sc__law_bare.nd) (bl_cons (st_asg (pd_ix B.toBd.hu (pd_var 0) (pd_var 2)) (tg_n 3 sc__law_bare.nd))
    (bl_cons (st_if (pb_cmp od_eqF (pd_ix B.toBd.hu (pd_var 3) pd_int) pd_str) (bl_one (st_asg (pd_tup (pl_cons pd_str (pl_cons (pd_tupL T.b_tuple (pd_fz (pc_lc (plc (own := [("field", 4)]) (N := ["definitions", "told", "name", "definition", "field"]) (sc := defScope s__law_bare) B.toBd sc__law_bare.nd (it_tup (pd_ix B.toBd.hu (pd_var 3) pd_int)) (by decide +kernel) (fun _ _ _ _ _ => (tg_n 4 sc__law_bare.nd)) (fun _ _ _ _ _ Bx => pts0) (fun _ _ _ _ _ Bx => (pd_slA (pd_var 4) po_n (po_s pd_int))))))) pl_nil))) (tg_n 3 sc__law_bare.nd))) bl_nil)
    (bl_cons (st_if (pb_bool (pwb_and (pb_cmp od_eqF (pd_ix B.toBd.hu (pd_var 3) pd_int) pd_str) (pw1_and (pb_cmp od_isNot (pd_ix B.toBd.hu (pd_var 3) pd_int) pd_non)))) (bl_one (st_asg (pd_tup (pl_cons pd_str (pl_cons (pd_ix B.toBd.hu (pd_var 3) pd_int) (pl_cons pd_str pl_nil)))) (tg_n 3 sc__law_bare.nd))) bl_nil)
    (bl_one (st_setD B.toBd.hu (pd_var 3) (pd_var 1) (pd_var 2)))))))
    (bl_one (st_ret (pd_var 1)))))⟩
/-! ### _law_changed -/
abbrev s__law_changed : Stmt := top 51
theorem sc__law_changed : FnScope ["box", "form", "definitions", "names", "turn", "name", "old", "kind", "fields", "field", "presence", "cases", "case"] ["box", "form"] (defScope s__law_changed) := ⟨rfl, rfl, rfl, by decide +kernel, rfl, by decide +kernel, by decide +kernel⟩
theorem ok__law_changed {k : Nat} {f__law_bare f_Format___init__ f__law_draw f__law_filled f__law_definition : FN} (T : Txt K w mg) (D : Dx K mg "_law_changed" s__law_changed ["box", "form"]) (h__law_bare : Fn P w K mg base (k + 1) "_law_bare" 1 f__law_bare) (h_Format___init__ : FnI P w K mg base k "Format" 3 f_Format___init__) (h__law_draw : Fn P w K mg base (k + 1) "_law_draw" 2 f__law_draw) (h__law_filled : Fn P w K mg base (k + 1) "_law_filled" 2 f__law_filled) (h__law_definition : Fn P w K mg base (k + 1) "_law_definition" 2 f__law_definition) : Fn P w K mg base (k + 2) "_law_changed" 2 (fnB 13 (b__law_changed f__law_bare f_Format___init__ f__law_draw f__law_filled f__law_definition)) :=
  okD D sc__law_changed fun f cdv A outer s H E B => ⟨_, (bl_cons (st_asg (pd_def B.toBd h__law_bare (pl_cons (pd_fld T.k_Format.hc T.k_Format.cl (T.k_Format.na _ (by decide +kernel)) (pd_var 1)) pl_nil) (alen_cons alen_nil)) (tg_n 2 sc__law_changed.nd))
    (bl_cons (st_asg (pd_fz (pc_B bn_sorted T.b_sorted (by decide +kernel) (pl_cons (pd_var 2) pl_nil))) (tg_n 3 sc__law_changed.nd))
    (bl_cons (st_for B.own B.calm (it_rng1 T.b_range (pl_cons (pd_def B.toBd h__law_draw (pl_cons (pd_var 0) (pl_cons pd_int pl_nil)) (alen_cons (alen_cons alen_nil))) pl_nil)) (tg_n 4 sc__law_changed.nd) (bl_cons (st_asg (pd_ix B.toBd.hu (pd_var 3) (pd_bin od_mod (pd_Ty bi_int T.b_int (by decide +kernel) (pl_cons (pd_def B.toBd h__law_draw (pl_cons (pd_var 0) (pl_cons pd_int pl_nil)) (alen_cons (alen_cons alen_nil))) pl_nil)) (pd_B bi_len T.b_len (by decide +kernel) (pl_cons (pd_var 3) pl_nil)))) (tg_n 5 sc__law_changed.nd))
    (bl_cons (st_asg (pd_ix B.toBd.hu (pd_var 2) (pd_var 5)) (tg_n 6 sc__law_changed.nd))
    (bl_cons (st_asg (pd_def B.toBd h__law_draw (pl_cons (pd_var 0) (pl_cons pd_int pl_nil)) (alen_cons (alen_cons alen_nil))) (tg_n 7 sc__law_changed.nd))
    (bl_one (st_if (pb_cmp od_eqF (pd_var 7) pd_int) (bl_one (st_setD B.toBd.hu (pd_def B.toBd h__law_definition (pl_cons (pd_var 0) (pl_cons (pd_var 3) pl_nil)) (alen_cons (alen_cons alen_nil))) (pd_var 2) (pd_var 5))) (bl_one (st_if (pb_cmp od_eqF (pd_ix B.toBd.hu (pd_var 6) pd_int) pd_str) (bl_one (st_setD B.toBd.hu (pd_tup (pl_cons pd_str (pl_cons (pd_bin od_sub (pd_ix B.toBd.hu (pd_var 6) pd_int) (pd_def B.toBd h__law_draw (pl_cons (pd_var 0) (pl_cons pd_int pl_nil)) (alen_cons (alen_cons alen_nil)))) (pl_cons (pd_bin od_add (pd_ix B.toBd.hu (pd_var 6) pd_int) (pd_def B.toBd h__law_draw (pl_cons (pd_var 0) (pl_cons pd_int pl_nil)) (alen_cons (alen_cons alen_nil)))) pl_nil)))) (pd_var 2) (pd_var 5))) (bl_one (st_if (pb_cmp od_eqF (pd_ix B.toBd.hu (pd_var 6) pd_int) pd_str) (bl_one (st_setD B.toBd.hu (pd_tup (pl_cons pd_str (pl_cons (pd_B bi_minL T.b_min (by decide +kernel) (pl_cons (pd_fz (pc_lst (pl_cons pd_int (pl_cons (pd_bin od_add (pd_ix B.toBd.hu (pd_var 6) pd_int) (pd_def B.toBd h__law_draw (pl_cons (pd_var 0) (pl_cons pd_int pl_nil)) (alen_cons (alen_cons alen_nil)))) pl_nil)))) pl_nil)) pl_nil))) (pd_var 2) (pd_var 5))) (bl_one (st_if (pb_cmp od_eqF (pd_ix B.toBd.hu (pd_var 6) pd_int) pd_str) (bl_one (st_setD B.toBd.hu (pd_tup (pl_cons pd_str (pl_cons (pd_ix B.toBd.hu (pd_var 6) pd_int) (pl_cons (pd_B bi_maxL T.b_max (by decide +kernel) (pl_cons (pd_fz (pc_lst (pl_cons pd_int (pl_cons (pd_bin od_sub (pd_ix B.toBd.hu (pd_var 6) pd_int) (pd_def B.toBd h__law_draw (pl_cons (pd_var 0) (pl_cons pd_int pl_nil)) (alen_cons (alen_cons alen_nil)))) pl_nil)))) pl_nil)) (pl_cons (pd_bin od_add (pd_ix B.toBd.hu (pd_var 6) pd_int) (pd_def B.toBd h__law_draw (pl_cons (pd_var 0) (pl_cons pd_int pl_nil)) (alen_cons (alen_cons alen_nil)))) pl_nil))))) (pd_var 2) (pd_var 5))) (bl_one (st_if (pb_cmp od_eqF (pd_ix B.toBd.hu (pd_var 6) pd_int) pd_str) (bl_cons (st_asg (pd_new (pc_lst pl_nil)) (tg_n 8 sc__law_changed.nd))
    (bl_cons (st_for B.own B.calm (it_tup (pd_ix B.toBd.hu (pd_var 6) pd_int)) (tg_n 9 sc__law_changed.nd) (bl_cons (st_asg (pd_ix B.toBd.hu (pd_fz (pc_lst (pl_cons pd_str (pl_cons pd_str (pl_cons pd_str (pl_cons (pd_ix B.toBd.hu (pd_var 9) pd_int) pl_nil)))))) (pd_def B.toBd h__law_draw (pl_cons (pd_var 0) (pl_cons pd_int pl_nil)) (alen_cons (alen_cons alen_nil)))) (tg_n 10 sc__law_changed.nd))
    (bl_one (st_if (pb_cmp od_gt (pd_def B.toBd h__law_draw (pl_cons (pd_var 0) (pl_cons pd_int pl_nil)) (alen_cons (alen_cons alen_nil))) pd_int) (bl_one (st_expr (pd_BM mi_append (pd_var 8) (pl_cons (pd_tup (pl_cons (pd_ix B.toBd.hu (pd_var 9) pd_int) (pl_cons (pd_ix B.toBd.hu (pd_var 9) pd_int) (pl_cons (pd_var 10) pl_nil)))) pl_nil)))) bl_nil))))
    (bl_fz 8 (bl_one (st_setD B.toBd.hu (pd_tup (pl_cons pd_str (pl_cons (pd_tupL T.b_tuple (pd_var 8)) pl_nil))) (pd_var 2) (pd_var 5)))))) (bl_one (st_if (pb_cmp od_eqF (pd_ix B.toBd.hu (pd_var 6) pd_int) pd_str) (bl_cons (have q := (plc (own := [("case", 12)]) (N := ["box", "form", "definitions", "names", "turn", "name", "old", "kind", "fields", "field", "presence", "cases", "case"]) (sc := defScope s__law_changed) B.toBd sc__law_changed.nd (it_tup (pd_ix B.toBd.hu (pd_var 6) pd_int)) (by decide +kernel) (fun _ _ _ _ _ => (tg_n 12 sc__law_changed.nd)) (fun _ _ _ _ _ Bx => (pts1 (pb_cmp od_gt (pd_def Bx h__law_draw (pl_cons (pd_var 0) (pl_cons pd_int pl_nil)) (alen_cons (alen_cons alen_nil))) pd_int))) (fun _ _ _ _ _ Bx => (pd_var 12))); st_lc 11 q (eok_fz q.ok) (sw_true rfl rfl rfl (by decide +kernel)))
    (bl_one (st_setD B.toBd.hu (pd_tup (pl_cons pd_str (pl_cons (pd_tupL T.b_tuple (pd_fz (pc_cat (pd_var 11) (pd_fz (pc_rep (pd_fz (pc_lst (pl_cons (pd_tup (pl_cons pd_str (pl_cons (pd_var 5) pl_nil))) pl_nil))) (pd_Ty bi_int T.b_int (by decide +kernel) (pl_cons (pd_notT (pd_var 11)) pl_nil))))))) (pl_cons (pd_ix B.toBd.hu (pd_fz (pc_lst (pl_cons (pd_ix B.toBd.hu (pd_var 6) pd_int) (pl_cons pd_str pl_nil)))) (pd_def B.toBd h__law_draw (pl_cons (pd_var 0) (pl_cons pd_int pl_nil)) (alen_cons (alen_cons alen_nil)))) pl_nil)))) (pd_var 2) (pd_var 5)))) bl_nil))))))))))))))))
    (bl_fz 2 (bl_one (st_ret (pd_make B.toBd h_Format___init__ (pl_cons (pd_fld T.k_Format.hc T.k_Format.cl (T.k_Format.na _ (by decide +kernel)) (pd_var 1)) (pl_cons (pd_def B.toBd h__law_filled (pl_cons (pd_var 0) (pl_cons (pd_rd (pd_var 2)) pl_nil)) (alen_cons (alen_cons alen_nil))) pl_nil)) (alen_cons (alen_cons alen_nil)))))))))⟩
/-! ### _law_drawn -/
abbrev s__law_drawn : Stmt := top 52
theorem sc__law_drawn : FnScope ["box", "list_of"] ["box", "list_of"] (defScope s__law_drawn) := ⟨rfl, rfl, rfl, by decide +kernel, rfl, by decide +kernel, by decide +kernel⟩
theorem ok__law_drawn {k : Nat} {f__law_draw : FN} (T : Txt K w mg) (D : Dx K mg "_law_drawn" s__law_drawn ["box", "list_of"]) (h__law_draw : Fn P w K mg base k "_law_draw" 2 f__law_draw) : Fn P w K mg base (k + 1) "_law_drawn" 2 (fnB 2 (b__law_drawn f__law_draw)) :=
  okD D sc__law_drawn fun f cdv A outer s H E B => ⟨_, (bl_one (st_ret (pd_ix B.toBd.hu (pd_var 1) (pd_bin od_mod (pd_Ty bi_int T.b_int (by decide +kernel) (pl_cons (pd_def B.toBd h__law_draw (pl_cons (pd_var 0) (pl_cons pd_int pl_nil)) (alen_cons (alen_cons alen_nil))) pl_nil)) (pd_B bi_len T.b_len (by decide +kernel) (pl_cons (pd_var 1) pl_nil))))))⟩
/-! ### _law_wild -/
abbrev s__law_wild : Stmt := top 53
theorem sc__law_wild : FnScope ["box", "depth", "kind", "record", "name", "turn"] ["box", "depth"] (defScope s__law_wild) := ⟨rfl, rfl, rfl, by decide +kernel, rfl, by decide +kernel, by decide +kernel⟩
theorem ok__law_wild {k : Nat} {f__law_draw f__law_drawn f__law_wild : FN} (T : Txt K w mg) (D : Dx K mg "_law_wild" s__law_wild ["box", "depth"]) (h__law_draw : Fn P w K mg base k "_law_draw" 2 f__law_draw) (h__law_drawn : Fn P w K mg base k "_law_drawn" 2 f__law_drawn) (h__law_wild : Fn P w K mg base k "_law_wild" 2 f__law_wild) : Fn P w K mg base (k + 1) "_law_wild" 2 (fnB 6 (b__law_wild f__law_draw f__law_drawn f__law_wild)) :=
  okD D sc__law_wild fun f cdv A outer s H E B => ⟨_, (bl_cons (st_asg (pd_def B.toBd h__law_draw (pl_cons (pd_var 0) (pl_cons pd_int pl_nil)) (alen_cons (alen_cons alen_nil))) (tg_n 2 sc__law_wild.nd))
    (bl_cons (st_if (pb_bool (pwb_or (pb_cmp od_eqF (pd_var 1) pd_int) (pw1_or (pb_cmp od_lt (pd_var 2) pd_int)))) (bl_one (st_ret (pd_def B.toBd h__law_drawn (pl_cons (pd_var 0) (pl_cons (pd_fz (pc_lst (pl_cons pd_int (pl_cons pd_int (pl_cons (pd_neg pd_int) (pl_cons pd_int (pl_cons pd_int (pl_cons (pd_neg pd_int) (pl_cons pd_int (pl_cons pd_str (pl_cons pd_str (pl_cons pd_str (pl_cons pd_str (pl_cons pd_str (pl_cons (pd_fz (pc_lst pl_nil)) (pl_cons (pd_fz pc_dct0) pl_nil)))))))))))))))) pl_nil)) (alen_cons (alen_cons alen_nil))))) bl_nil)
    (bl_cons (st_if (pb_cmp od_lt (pd_var 2) pd_int) (bl_one (st_ret (pd_fz (pc_lc (plc (own := [("turn", 5)]) (N := ["box", "depth", "kind", "record", "name", "turn"]) (sc := defScope s__law_wild) B.toBd sc__law_wild.nd (it_rng1 T.b_range (pl_cons (pd_def B.toBd h__law_draw (pl_cons (pd_var 0) (pl_cons pd_int pl_nil)) (alen_cons (alen_cons alen_nil))) pl_nil)) (by decide +kernel) (fun _ _ _ _ _ => (tg_n 5 sc__law_wild.nd)) (fun _ _ _ _ _ Bx => pts0) (fun _ _ _ _ _ Bx => (pd_def Bx h__law_wild (pl_cons (pd_var 0) (pl_cons (pd_bin od_sub (pd_var 1) pd_int) pl_nil)) (alen_cons (alen_cons alen_nil))))))))) bl_nil)
    (bl_cons (st_if (pb_cmp od_lt (pd_var 2) pd_int) (bl_cons (st_asg (pd_new pc_dct0) (tg_n 3 sc__law_wild.nd))
    (bl_cons (st_for B.own B.calm (it_lst (pd_fz (pc_lst (pl_cons pd_str (pl_cons pd_str (pl_cons pd_str (pl_cons pd_str pl_nil))))))) (tg_n 4 sc__law_wild.nd) (bl_one (st_if (pb_cmp od_eqF (pd_def B.toBd h__law_draw (pl_cons (pd_var 0) (pl_cons pd_int pl_nil)) (alen_cons (alen_cons alen_nil))) pd_int) (bl_one (st_setD B.toBd.hu (pd_def B.toBd h__law_wild (pl_cons (pd_var 0) (pl_cons (pd_bin od_sub (pd_var 1) pd_int) pl_nil)) (alen_cons (alen_cons alen_nil))) (pd_var 3) (pd_var 4))) bl_nil)))
    (bl_fz 3 (bl_one (st_ret (pd_var 3)))))) bl_nil)
    (bl_one (st_ret (pd_tup (pl_cons (pd_ix B.toBd.hu (pd_fz (pc_lst (pl_cons pd_str (pl_cons pd_str (pl_cons pd_str (pl_cons pd_str pl_nil)))))) (pd_def B.toBd h__law_draw (pl_cons (pd_var 0) (pl_cons pd_int pl_nil)) (alen_cons (alen_cons alen_nil)))) (pl_cons (pd_def B.toBd h__law_wild (pl_cons (pd_var 0) (pl_cons (pd_bin od_sub (pd_var 1) pd_int) pl_nil)) (alen_cons (alen_cons alen_nil))) pl_nil)))))))))⟩
/-! ### _law_spoilt -/
abbrev s__law_spoilt : Stmt := top 54
theorem sc__law_spoilt : FnScope ["box", "value", "place", "kind", "name", "record", "other"] ["box", "value"] (defScope s__law_spoilt) := ⟨rfl, rfl, rfl, by decide +kernel, rfl, by decide +kernel, by decide +kernel⟩
theorem ok__law_spoilt {k : Nat} {f__law_is_integer f__law_wild f__law_draw f__law_drawn f__law_spoilt : FN} (T : Txt K w mg) (D : Dx K mg "_law_spoilt" s__law_spoilt ["box", "value"]) (h__law_is_integer : Fn P w K mg base k "_law_is_integer" 1 f__law_is_integer) (h__law_wild : Fn P w K mg base k "_law_wild" 2 f__law_wild) (h__law_draw : Fn P w K mg base k "_law_draw" 2 f__law_draw) (h__law_drawn : Fn P w K mg base k "_law_drawn" 2 f__law_drawn) (h__law_spoilt : Fn P w K mg base k "_law_spoilt" 2 f__law_spoilt) : Fn P w K mg base (k + 1) "_law_spoilt" 2 (fnB 7 (b__law_spoilt_k12 f__law_is_integer f__law_wild f__law_draw f__law_drawn f__law_spoilt)) :=
  okD D sc__law_spoilt fun f cdv A outer s H E B => ⟨_, (bl_cons (st_if (pb_cmp od_eqF (pd_def B.toBd h__law_draw (pl_cons (pd_var 0) (pl_cons pd_int pl_nil)) (alen_cons (alen_cons alen_nil))) pd_int) (bl_one (st_ret (pd_def B.toBd h__law_wild (pl_cons (pd_var 0) (pl_cons pd_int pl_nil)) (alen_cons (alen_cons alen_nil))))) bl_nil)
    (bl_cons (st_if (pb_bool (pwb_and (pb_truth (pd_isi (pd_var 1) T.b_isinstance T.b_list (by decide +kernel))) (pw1_and (pb_cmp od_gt (pd_B bi_len T.b_len (by decide +kernel) (pl_cons (pd_var 1) pl_nil)) pd_int)))) (bl_cons (st_asg (pd_def B.toBd h__law_draw (pl_cons (pd_var 0) (pl_cons (pd_B bi_len T.b_len (by decide +kernel) (pl_cons (pd_var 1) pl_nil)) pl_nil)) (alen_cons (alen_cons alen_nil))) (tg_n 2 sc__law_spoilt.nd))
    (bl_cons (st_asg (pd_def B.toBd h__law_draw (pl_cons (pd_var 0) (pl_cons pd_int pl_nil)) (alen_cons (alen_cons alen_nil))) (tg_n 3 sc__law_spoilt.nd))
    (bl_cons (st_if (pb_cmp od_eqF (pd_var 3) pd_int) (bl_one (st_ret (pd_fz (pc_cat (pd_fz (pc_slL (pd_var 1) po_n (po_s (pd_var 2)))) (pd_fz (pc_slL (pd_var 1) (po_s (pd_bin od_add (pd_var 2) pd_int)) po_n)))))) bl_nil)
    (bl_cons (st_if (pb_cmp od_eqF (pd_var 3) pd_int) (bl_one (st_ret (pd_fz (pc_cat (pd_var 1) (pd_fz (pc_slL (pd_var 1) (po_s (pd_var 2)) po_n)))))) bl_nil)
    (bl_one (st_ret (pd_fz (pc_cat (pd_fz (pc_cat (pd_fz (pc_slL (pd_var 1) po_n (po_s (pd_var 2)))) (pd_fz (pc_lst (pl_cons (pd_def B.toBd h__law_spoilt (pl_cons (pd_var 0) (pl_cons (pd_ix B.toBd.hu (pd_var 1) (pd_var 2)) pl_nil)) (alen_cons (alen_cons alen_nil))) pl_nil))))) (pd_fz (pc_slL (pd_var 1) (po_s (pd_bin od_add (pd_var 2) pd_int)) po_n)))))))))) bl_nil)
    (bl_cons (st_if (pb_bool (pwb_and (pb_truth (pd_isi (pd_var 1) T.b_isinstance T.b_dict (by decide +kernel))) (pw1_and (pb_cmp od_gt (pd_B bi_len T.b_len (by decide +kernel) (pl_cons (pd_var 1) pl_nil)) pd_int)))) (bl_cons (st_asg (pd_def B.toBd h__law_drawn (pl_cons (pd_var 0) (pl_cons (pd_fz (pc_B bn_sorted T.b_sorted (by decide +kernel) (pl_cons (pd_var 1) pl_nil))) pl_nil)) (alen_cons (alen_cons alen_nil))) (tg_n 4 sc__law_spoilt.nd))
    (bl_cons (st_asg (pd_def B.toBd h__law_draw (pl_cons (pd_var 0) (pl_cons pd_int pl_nil)) (alen_cons (alen_cons alen_nil))) (tg_n 3 sc__law_spoilt.nd))
    (bl_cons (st_if (pb_cmp od_eqF (pd_var 3) pd_int) (bl_one (st_ret (pd_fz (pc_Ty bn_dictP T.b_dict (by decide +kernel) (pl_cons (pd_fz (pc_lc (plc (own := [("other", 6)]) (N := ["box", "value", "place", "kind", "name", "record", "other"]) (sc := defScope s__law_spoilt) B.toBd sc__law_spoilt.nd (it_lst (pd_fz (pc_B bn_sorted T.b_sorted (by decide +kernel) (pl_cons (pd_var 1) pl_nil)))) (by decide +kernel) (fun _ _ _ _ _ => (tg_n 6 sc__law_spoilt.nd)) (fun _ _ _ _ _ Bx => (pts1 (pb_cmp od_neF (pd_var 6) (pd_var 4)))) (fun _ _ _ _ _ Bx => (pd_tup (pl_cons (pd_var 6) (pl_cons (pd_ix Bx.hu (pd_var 1) (pd_var 6)) pl_nil))))))) pl_nil))))) bl_nil)
    (bl_cons (st_if (pb_cmp od_eqF (pd_var 3) pd_int) (bl_one (st_ret (pd_fz (pc_Ty bn_dictP T.b_dict (by decide +kernel) (pl_cons (pd_fz (pc_cat (pd_fz (pc_lst (pl_cons (pd_tup (pl_cons pd_str (pl_cons pd_int pl_nil))) pl_nil))) (pd_fz (pc_lc (plc (own := [("other", 6)]) (N := ["box", "value", "place", "kind", "name", "record", "other"]) (sc := defScope s__law_spoilt) B.toBd sc__law_spoilt.nd (it_lst (pd_fz (pc_B bn_sorted T.b_sorted (by decide +kernel) (pl_cons (pd_var 1) pl_nil)))) (by decide +kernel) (fun _ _ _ _ _ => (tg_n 6 sc__law_spoilt.nd)) (fun _ _ _ _ _ Bx => (pts1 (pb_cmp od_neF (pd_var 6) pd_str))) (fun _ _ _ _ _ Bx => (pd_tup (pl_cons (pd_var 6) (pl_cons (pd_ix Bx.hu (pd_var 1) (pd_var 6)) pl_nil))))))))) pl_nil))))) bl_nil)
    (bl_cons (st_asg (pd_new (pc_Ty bn_dict T.b_dict (by decide +kernel) (pl_cons (pd_var 1) pl_nil))) (tg_n 5 sc__law_spoilt.nd))
    (bl_cons (st_setD B.toBd.hu (pd_def B.toBd h__law_spoilt (pl_cons (pd_var 0) (pl_cons (pd_ix B.toBd.hu (pd_var 1) (pd_var 4)) pl_nil)) (alen_cons (alen_cons alen_nil))) (pd_var 5) (pd_var 4))
    (bl_fz 5 (bl_one (st_ret (pd_var 5)))))))))) bl_nil)
    (bl_cons (st_if (pb_truth (pd_isi (pd_var 1) T.b_isinstance T.b_tuple (by decide +kernel))) (bl_cons (st_if (pb_cmp od_eqF (pd_def B.toBd h__law_draw (pl_cons (pd_var 0) (pl_cons pd_int pl_nil)) (alen_cons (alen_cons alen_nil))) pd_int) (bl_one (st_ret (pd_tup (pl_cons (pd_ix B.toBd.hu (pd_fz (pc_lst (pl_cons pd_str (pl_cons pd_str (pl_cons pd_str (pl_cons pd_str pl_nil)))))) (pd_def B.toBd h__law_draw (pl_cons (pd_var 0) (pl_cons pd_int pl_nil)) (alen_cons (alen_cons alen_nil)))) (pl_cons (pd_ix B.toBd.hu (pd_var 1) pd_int) pl_nil))))) bl_nil)
    (bl_one (st_ret (pd_tup (pl_cons (pd_ix B.toBd.hu (pd_var 1) pd_int) (pl_cons (pd_def B.toBd h__law_spoilt (pl_cons (pd_var 0) (pl_cons (pd_ix B.toBd.hu (pd_var 1) pd_int) pl_nil)) (alen_cons (alen_cons alen_nil))) pl_nil)))))) bl_nil)
    (bl_cons (st_if (pb_truth (pd_def B.toBd h__law_is_integer (pl_cons (pd_var 1) pl_nil) (alen_cons alen_nil))) (bl_one (st_ret (pd_bin od_add (pd_var 1) (pd_def B.toBd h__law_drawn (pl_cons (pd_var 0) (pl_cons (pd_fz (pc_lst (pl_cons pd_int (pl_cons (pd_neg pd_int) (pl_cons pd_int (pl_cons (pd_neg pd_int) pl_nil)))))) pl_nil)) (alen_cons (alen_cons alen_nil)))))) bl_nil)
    (bl_one (st_ret (pd_def B.toBd h__law_wild (pl_cons (pd_var 0) (pl_cons pd_int pl_nil)) (alen_cons (alen_cons alen_nil))))))))))⟩
/-! ### _law_some_values -/
abbrev s__law_some_values : Stmt := top 55
theorem sc__law_some_values : FnScope ["box", "known", "many", "found", "turn", "kind", "value"] ["box", "known", "many"] (defScope s__law_some_values) := ⟨rfl, rfl, rfl, by decide +kernel, rfl, by decide +kernel, by decide +kernel⟩
theorem ok__law_some_values {k : Nat} {f__law_draw f__law_wild f__law_spoilt : FN} (T : Txt K w mg) (D : Dx K mg "_law_some_values" s__law_some_values ["box", "known", "many"]) (h__law_draw : Fn P w K mg base k "_law_draw" 2 f__law_draw) (h__law_wild : Fn P w K mg base k "_law_wild" 2 f__law_wild) (h__law_spoilt : Fn P w K mg base k "_law_spoilt" 2 f__law_spoilt) : Fn P w K mg base (k + 1) "_law_some_values" 3 (fnB 7 (b__law_some_values f__law_draw f__law_wild f__law_spoilt)) :=
  okD D sc__law_some_values fun f cdv A outer s H E B => ⟨_, (bl_cons (st_asg (pd_new (pc_lst pl_nil)) (tg_n 3 sc__law_some_values.nd))
    (bl_cons (st_for B.own B.calm (it_rng1 T.b_range (pl_cons (pd_var 2) pl_nil)) (tg_n 4 sc__law_some_values.nd) (bl_cons (st_asg (pd_def B.toBd h__law_draw (pl_cons (pd_var 0) (pl_cons pd_int pl_nil)) (alen_cons (alen_cons alen_nil))) (tg_n 5 sc__law_some_values.nd))
    (bl_one (st_if (pb_bool (pwb_or (pb_cmp (od_eq B.toBd.h64) (pd_var 5) pd_int) (pw1_or (pb_cmp (od_eq B.toBd.h64) (pd_var 1) (pd_fz (pc_lst pl_nil)))))) (bl_one (st_expr (pd_BM mi_append (pd_var 3) (pl_cons (pd_def B.toBd h__law_wild (pl_cons (pd_var 0) (pl_cons pd_int pl_nil)) (alen_cons (alen_cons alen_nil))) pl_nil)))) (bl_cons (st_asg (pd_ix B.toBd.hu (pd_var 1) (pd_bin od_mod (pd_Ty bi_int T.b_int (by decide +kernel) (pl_cons (pd_bin od_add (pd_bin od_mul (pd_def B.toBd h__law_draw (pl_cons (pd_var 0) (pl_cons pd_int pl_nil)) (alen_cons (alen_cons alen_nil))) pd_int) (pd_var 4)) pl_nil)) (pd_B bi_len T.b_len (by decide +kernel) (pl_cons (pd_var 1) pl_nil)))) (tg_n 6 sc__law_some_values.nd))
    (bl_cons (st_if (pb_cmp (od_eq B.toBd.h64) (pd_var 5) pd_int) (bl_one (st_asg (pd_def B.toBd h__law_spoilt (pl_cons (pd_var 0) (pl_cons (pd_var 6) pl_nil)) (alen_cons (alen_cons alen_nil))) (tg_n 6 sc__law_some_values.nd))) bl_nil)
    (bl_one (st_expr (pd_BM mi_append (pd_var 3) (pl_cons (pd_var 6) pl_nil))))))))))
    (bl_fz 3 (bl_one (st_ret (pd_var 3))))))⟩
/-! ### _law_size -/
abbrev s__law_size : Stmt := top 56
theorem sc__law_size : FnScope ["value"] ["value"] (defScope s__law_size) := ⟨rfl, rfl, rfl, by decide +kernel, rfl, by decide +kernel, by decide +kernel⟩
theorem ok__law_size {k : Nat} {f__law_rank : FN} (T : Txt K w mg) (D : Dx K mg "_law_size" s__law_size ["value"]) (h__law_rank : Fn P w K mg base k "_law_rank" 1 f__law_rank) : Fn P w K mg base (k + 1) "_law_size" 1 (fnB 1 (b__law_size_k19 f__law_rank)) :=
  okD D sc__law_size fun f cdv A outer s H E B => ⟨_, (bl_one (st_ret (pd_ix B.toBd.hu (pd_def B.toBd h__law_rank (pl_cons (pd_var 0) pl_nil) (alen_cons alen_nil)) pd_int)))⟩
/-! ### _law_listed -/
abbrev s__law_listed : Stmt := top 57
theorem sc__law_listed : FnScope ["form", "most", "table", "found", "last", "name", "rows", "size"] ["form", "most"] (defScope s__law_listed) := ⟨rfl, rfl, rfl, by decide +kernel, rfl, by decide +kernel, by decide +kernel⟩
theorem ok__law_listed {k : Nat} {f__law_table f__law_rank : FN} (T : Txt K w mg) (D : Dx K mg "_law_listed" s__law_listed ["form", "most"]) (h__law_table : Fn P w K mg base (k + 2) "_law_table" 2 f__law_table) (h__law_rank : Fn P w K mg base k "_law_rank" 1 f__law_rank) : Fn P w K mg base (k + 3) "_law_listed" 2 (fnB 8 (b__law_listed f__law_table f__law_rank)) :=
  okD D sc__law_listed fun f cdv A outer s H E B => ⟨_, (bl_cons (st_asg (pd_def B.toBd h__law_table (pl_cons (pd_fld T.k_Format.hc T.k_Format.cl (T.k_Format.na _ (by decide +kernel)) (pd_var 0)) (pl_cons (pd_var 1) pl_nil)) (alen_cons (alen_cons alen_nil))) (tg_n 2 sc__law_listed.nd))
    (bl_cons (st_asg (pd_new pc_dct0) (tg_n 3 sc__law_listed.nd))
    (bl_cons (st_asg pd_int (tg_n 4 sc__law_listed.nd))
    (bl_cons (st_for B.own B.calm (it_lst (pd_fz (pc_B bn_sorted T.b_sorted (by decide +kernel) (pl_cons (pd_fld T.k_Format.hc T.k_Format.cl (T.k_Format.na _ (by decide +kernel)) (pd_var 0)) pl_nil)))) (tg_n 5 sc__law_listed.nd) (bl_cons (st_asg (pd_fz (pc_lst pl_nil)) (tg_n 6 sc__law_listed.nd))
    (bl_cons (st_for B.own B.calm (it_rng2 T.b_range (pl_cons pd_int (pl_cons (pd_bin od_add (pd_var 1) pd_int) pl_nil))) (tg_n 7 sc__law_listed.nd) (bl_one (st_if (pb_cmp (od_inU B.toBd.hu) (pd_tup (pl_cons (pd_var 5) (pl_cons (pd_var 7) pl_nil))) (pd_var 2)) (bl_cons (st_asg (pd_B bi_max T.b_max (by decide +kernel) (pl_cons (pd_var 4) (pl_cons (pd_var 7) pl_nil))) (tg_n 4 sc__law_listed.nd))
    (bl_one (st_asg (pd_fz (pc_cat (pd_var 6) (pd_ixU B.toBd.hu (pd_var 2) (pd_tup (pl_cons (pd_var 5) (pl_cons (pd_var 7) pl_nil)))))) (tg_n 6 sc__law_listed.nd)))) bl_nil)))
    (bl_one (st_setD B.toBd.hu (pd_fz (Classical.choose_spec (pc_sortK B.toBd h__law_rank (pd_var 6) T.b_sorted))) (pd_var 3) (pd_var 5))))))
    (bl_fz 3 (bl_one (st_ret (pd_fz (pc_lst (pl_cons (pd_var 3) (pl_cons (pd_var 4) pl_nil)))))))))))⟩
/-! ### law -/
abbrev s_law : Stmt := top 58
theorem sc_law : FnScope ["script", "box", "form", "other", "known", "more", "name", "values", "value", "told"] ["script"] (defScope s_law) := ⟨rfl, rfl, rfl, by decide +kernel, rfl, by decide +kernel, by decide +kernel⟩
theorem ok_law {k : Nat} {f__law_box f__law_format f__law_changed f__law_listed f__law_some_values f_read_by f__law_same f__law_size f_read : FN} {f : Addr} {fd : FuncData} (T : Txt K w mg) (F : L2.Fun K "law" "law" s_law f fd) (h__law_box : Fn P w K mg base k "_law_box" 3 f__law_box) (h__law_format : Fn P w K mg base k "_law_format" 1 f__law_format) (h__law_changed : Fn P w K mg base k "_law_changed" 2 f__law_changed) (h__law_listed : Fn P w K mg base k "_law_listed" 2 f__law_listed) (h__law_some_values : Fn P w K mg base k "_law_some_values" 3 f__law_some_values) (h_read_by : Fn P w K mg base k "read_by" 3 f_read_by) (h__law_same : FnG P w K mg base k "_law_same" 2 f__law_same) (h__law_size : Fn P w K mg base k "_law_size" 1 f__law_size) (h_read : Fn P w K mg base k "read" 2 f_read) : FnOkG P w K mg base (L2.CX P w) (k + 1) f fd ["script"] (spM K 1 (fnB 10 (b_law_k19 f__law_box f__law_format f__law_changed f__law_listed f__law_some_values f_read_by f__law_same f__law_size f_read))) :=
  okFG F sc_law fun cdv A outer s H E B => ⟨_, (bl_cons (st_asg (pd_def B.toBd h__law_box (pl_cons (pd_var 0) (pl_cons pd_int (pl_cons pd_int pl_nil))) (alen_cons (alen_cons (alen_cons alen_nil)))) (tg_n 1 sc_law.nd))
    (bl_cons (st_asg (pd_def B.toBd h__law_format (pl_cons (pd_var 1) pl_nil) (alen_cons alen_nil)) (tg_n 2 sc_law.nd))
    (bl_cons (st_asg (pd_def B.toBd h__law_changed (pl_cons (pd_var 1) (pl_cons (pd_var 2) pl_nil)) (alen_cons (alen_cons alen_nil))) (tg_n 3 sc_law.nd))
    (bl_cons (st_asg (pd_ix B.toBd.hu (pd_def B.toBd h__law_listed (pl_cons (pd_var 2) (pl_cons pd_int pl_nil)) (alen_cons (alen_cons alen_nil))) pd_int) (tg_n 4 sc_law.nd))
    (bl_cons (st_asg (pd_ix B.toBd.hu (pd_def B.toBd h__law_listed (pl_cons (pd_var 3) (pl_cons pd_int pl_nil)) (alen_cons (alen_cons alen_nil))) pd_int) (tg_n 5 sc_law.nd))
    (bl_cons (st_for B.own B.calm (it_lst (pd_fz (pc_B bn_sorted T.b_sorted (by decide +kernel) (pl_cons (pd_fld T.k_Format.hc T.k_Format.cl (T.k_Format.na _ (by decide +kernel)) (pd_var 2)) pl_nil)))) (tg_n 6 sc_law.nd) (bl_cons (st_asg (pd_def B.toBd h__law_some_values (pl_cons (pd_var 1) (pl_cons (pd_ix B.toBd.hu (pd_var 4) (pd_var 6)) (pl_cons pd_int pl_nil))) (alen_cons (alen_cons (alen_cons alen_nil)))) (tg_n 7 sc_law.nd))
    (bl_cons (st_if (pb_cmp (od_inD B.toBd.hu) (pd_var 6) (pd_var 5)) (bl_one (st_asg (pd_fz (pc_cat (pd_var 7) (pd_def B.toBd h__law_some_values (pl_cons (pd_var 1) (pl_cons (pd_ix B.toBd.hu (pd_var 5) (pd_var 6)) (pl_cons pd_int pl_nil))) (alen_cons (alen_cons (alen_cons alen_nil)))))) (tg_n 7 sc_law.nd))) bl_nil)
    (bl_one (st_for B.own B.calm (it_lst (pd_var 7)) (tg_n 8 sc_law.nd) (bl_cons (st_asg (pd_def B.toBd h_read_by (pl_cons (pd_var 2) (pl_cons (pd_var 6) (pl_cons (pd_var 8) pl_nil))) (alen_cons (alen_cons (alen_cons alen_nil)))) (tg_n 9 sc_law.nd))
    (bl_cons (st_if (pb_not (pb_truth (pd_defG B h__law_same (pl_cons (pd_def B.toBd h_read_by (pl_cons (pd_var 2) (pl_cons (pd_var 6) (pl_cons (pd_var 8) pl_nil))) (alen_cons (alen_cons (alen_cons alen_nil)))) (pl_cons (pd_var 9) pl_nil)) (alen_cons (alen_cons alen_nil))))) (bl_one (st_ret pd_bl)) bl_nil)
    (bl_one (st_if (pb_cmp od_eqF (pd_ix B.toBd.hu (pd_var 9) pd_int) pd_str) (bl_cons (st_if (pb_not (pb_truth (pd_defG B h__law_same (pl_cons (pd_def B.toBd h_read_by (pl_cons (pd_var 2) (pl_cons (pd_var 6) (pl_cons (pd_ix B.toBd.hu (pd_var 9) pd_int) pl_nil))) (alen_cons (alen_cons (alen_cons alen_nil)))) (pl_cons (pd_var 9) pl_nil)) (alen_cons (alen_cons alen_nil))))) (bl_one (st_ret pd_bl)) bl_nil)
    (bl_one (st_if (pb_bool (pwb_and (pb_cmp od_eqF (pd_var 6) (pd_fld T.k_Format.hc T.k_Format.cl (T.k_Format.na _ (by decide +kernel)) (pd_var 2))) (pwb_and (pb_cmp od_le (pd_def B.toBd h__law_size (pl_cons (pd_ix B.toBd.hu (pd_var 9) pd_int) pl_nil) (alen_cons alen_nil)) pd_int) (pw1_and (pb_not (pb_truth (pd_defG B h__law_same (pl_cons (pd_def B.toBd h_read (pl_cons (pd_var 2) (pl_cons (pd_ix B.toBd.hu (pd_var 9) pd_int) pl_nil)) (alen_cons (alen_cons alen_nil))) (pl_cons (pd_var 9) pl_nil)) (alen_cons (alen_cons alen_nil))))))))) (bl_one (st_ret pd_bl)) bl_nil))) (bl_one (st_if (pb_bool (pwb_or (pb_cmp od_neF (pd_ix B.toBd.hu (pd_var 9) pd_int) pd_str) (pw1_or (pb_bool (pwb_and (pb_cmp (od_eq B.toBd.h64) (pd_ix B.toBd.hu (pd_var 9) pd_int) (pd_fz (pc_lst pl_nil))) (pw1_and (pb_cmp od_eqF (pd_ix B.toBd.hu (pd_var 9) pd_int) pd_str))))))) (bl_one (st_ret pd_bl)) bl_nil)))))))))))
    (bl_one (st_ret pd_bl))))))))⟩
/-- all that stands -/
structure All (K : PySem.W.Frag) (w : World) (mg : Str → Option Value) : Prop where
  T : Txt K w mg
  d_kind_of : Dx K mg "kind_of" s_kind_of ["value"]
  d_sorted_fields : Dx K mg "sorted_fields" s_sorted_fields ["record"]
  d__named_parts : Dx K mg "_named_parts" s__named_parts ["value"]
  d_parts_of : Dx K mg "parts_of" s_parts_of ["value"]
  d__own_size : Dx K mg "_own_size" s__own_size ["value"]
  d_size_of : Dx K mg "size_of" s_size_of ["value"]
  d__has_depth : Dx K mg "_has_depth" s__has_depth ["value"]
  d_copy_of : Dx K mg "copy_of" s_copy_of ["value"]
  d_Format___init__ : DxI K mg "Format" "Format.__init__" s_Format___init__ ["self", "root", "definitions"]
  d_Format_of : DxM K "Format" "of" "Format.of" s_Format_of ["self", "name"]
  d_case_of : Dx K mg "case_of" s_case_of ["definition", "tag"]
  d_is_kind : Dx K mg "is_kind" s_is_kind ["definition", "value"]
  d_is_within : Dx K mg "is_within" s_is_within ["definition", "value"]
  d_Reading___init__ : DxI K mg "Reading" "Reading.__init__" s_Reading___init__ ["self", "form"]
  d_Reading_put_off : DxM K "Reading" "put_off" "Reading.put_off" s_Reading_put_off ["self", "steps"]
  d_Reading_go_on : DxM K "Reading" "go_on" "Reading.go_on" s_Reading_go_on ["self"]
  d_Reading_read_part : DxM K "Reading" "read_part" "Reading.read_part" s_Reading_read_part ["self", "definition", "value", "path"]
  d_Reading_read_choice : DxM K "Reading" "read_choice" "Reading.read_choice" s_Reading_read_choice ["self", "definition", "value", "path"]
  d_Reading_put_together : DxM K "Reading" "put_together" "Reading.put_together" s_Reading_put_together ["self", "word", "what"]
  d__steps_of_list : Dx K mg "_steps_of_list" s__steps_of_list ["definition", "value", "path"]
  d__steps_of_record : Dx K mg "_steps_of_record" s__steps_of_record ["definition", "value", "path"]
  d_read_by : Dx K mg "read_by" s_read_by ["form", "name", "value"]
  d_read : Dx K mg "read" s_read ["form", "value"]
  d__law_cell : Dx K mg "_law_cell" s__law_cell ["script", "k"]
  d__law_row : Dx K mg "_law_row" s__law_row ["cell", "k", "many"]
  d__law_box : Dx K mg "_law_box" s__law_box ["script", "first", "last"]
  d__law_draw : Dx K mg "_law_draw" s__law_draw ["box", "many"]
  d__law_is_integer : Dx K mg "_law_is_integer" s__law_is_integer ["actual"]
  d__law_same : Dx K mg "_law_same" s__law_same ["one", "other"]
  d__law_rank : Dx K mg "_law_rank" s__law_rank ["value"]
  d__law_always : Dx K mg "_law_always" s__law_always ["field"]
  d__law_any : Dx K mg "_law_any" s__law_any ["size"]
  d__law_lists : Dx K mg "_law_lists" s__law_lists ["table", "definition", "size"]
  d__law_records : Dx K mg "_law_records" s__law_records ["table", "definition", "size"]
  d__law_sized : Dx K mg "_law_sized" s__law_sized ["definition", "table", "size"]
  d__law_table : Dx K mg "_law_table" s__law_table ["definitions", "most"]
  d__law_definition : Dx K mg "_law_definition" s__law_definition ["box", "names"]
  d__law_filled : Dx K mg "_law_filled" s__law_filled ["box", "definitions"]
  d__law_plain : Dx K mg "_law_plain" s__law_plain ["box"]
  d__law_format : Dx K mg "_law_format" s__law_format ["box"]
  d__law_bare : Dx K mg "_law_bare" s__law_bare ["definitions"]
  d__law_changed : Dx K mg "_law_changed" s__law_changed ["box", "form"]
  d__law_drawn : Dx K mg "_law_drawn" s__law_drawn ["box", "list_of"]
  d__law_wild : Dx K mg "_law_wild" s__law_wild ["box", "depth"]
  d__law_spoilt : Dx K mg "_law_spoilt" s__law_spoilt ["box", "value"]
  d__law_some_values : Dx K mg "_law_some_values" s__law_some_values ["box", "known", "many"]
  d__law_size : Dx K mg "_law_size" s__law_size ["value"]
  d__law_listed : Dx K mg "_law_listed" s__law_listed ["form", "most"]
theorem fn_kind_of (A : All K w mg) : Fn P w K mg base 1 "kind_of" 1 F_kind_of := ok_kind_of (k := 0) A.T A.d_kind_of 
theorem fn_sorted_fields (A : All K w mg) : Fn P w K mg base 1 "sorted_fields" 1 F_sorted_fields := ok_sorted_fields (k := 0) A.T A.d_sorted_fields 
theorem fn__named_parts (A : All K w mg) : Fn P w K mg base 2 "_named_parts" 1 F__named_parts := ok__named_parts (k := 1) A.T A.d__named_parts ((fn_kind_of A).mono (by decide)) ((fn_sorted_fields A).mono (by decide))
theorem fn_parts_of (A : All K w mg) : Fn P w K mg base 3 "parts_of" 1 F_parts_of := ok_parts_of (k := 2) A.T A.d_parts_of ((fn__named_parts A).mono (by decide))
theorem fn__own_size (A : All K w mg) : Fn P w K mg base 1 "_own_size" 1 F__own_size := ok__own_size (k := 0) A.T A.d__own_size 
theorem fn_size_of (A : All K w mg) : Fn P w K mg base 4 "size_of" 1 F_size_of := ok_size_of (k := 3) A.T A.d_size_of ((fn__own_size A).mono (by decide)) ((fn_parts_of A).mono (by decide))
theorem fn__has_depth (A : All K w mg) : Fn P w K mg base 2 "_has_depth" 1 F__has_depth := ok__has_depth (k := 1) A.T A.d__has_depth ((fn_kind_of A).mono (by decide))
theorem fn_copy_of (A : All K w mg) : ∀ n : Nat, Fn P w K mg base (3 + n) "copy_of" 1 (F_copy_of n)
  | 0 => okD0 A.d_copy_of
  | n + 1 => ok_copy_of (k := 3 + n) A.T A.d_copy_of ((fn_parts_of A).mono (by omega)) ((fn_kind_of A).mono (by omega)) ((fn__has_depth A).mono (by omega)) (fn_copy_of A n)
theorem fn_Format___init__ (A : All K w mg) : FnI P w K mg base 1 "Format" 3 F_Format___init__ := ok_Format___init__ (k := 0) A.T A.d_Format___init__ 
theorem fn_Format_of (A : All K w mg) : FnM P w K mg base 1 "Format" "of" 2 F_Format_of := ok_Format_of (k := 0) A.T A.d_Format_of 
theorem fn_case_of (A : All K w mg) : Fn P w K mg base 1 "case_of" 2 F_case_of := ok_case_of (k := 0) A.T A.d_case_of 
theorem fn_is_kind (A : All K w mg) : Fn P w K mg base 2 "is_kind" 2 F_is_kind := ok_is_kind (k := 1) A.T A.d_is_kind ((fn_kind_of A).mono (by decide))
theorem fn_is_within (A : All K w mg) : Fn P w K mg base 1 "is_within" 2 F_is_within := ok_is_within (k := 0) A.T A.d_is_within 
theorem fn_Reading___init__ (A : All K w mg) : FnI P w K mg base 1 "Reading" 2 F_Reading___init__ := ok_Reading___init__ (k := 0) A.T A.d_Reading___init__ 
theorem fn_Reading_put_off (A : All K w mg) : FnM P w K mg base 1 "Reading" "put_off" 2 F_Reading_put_off := ok_Reading_put_off (k := 0) A.T A.d_Reading_put_off 
theorem fn_Reading_read_choice (A : All K w mg) : FnM P w K mg base 44 "Reading" "read_choice" 4 F_Reading_read_choice := ok_Reading_read_choice (k := 43) A.T A.d_Reading_read_choice ((fn_case_of A).mono (by decide)) ((fn_Reading_put_off A).mono (by decide)) ((fn_copy_of A 40).mono (by decide))
theorem fn__steps_of_record (A : All K w mg) : Fn P w K mg base 1 "_steps_of_record" 3 F__steps_of_record := ok__steps_of_record (k := 0) A.T A.d__steps_of_record 
theorem fn__steps_of_list (A : All K w mg) : Fn P w K mg base 1 "_steps_of_list" 3 F__steps_of_list := ok__steps_of_list (k := 0) A.T A.d__steps_of_list 
theorem fn_Reading_read_part (A : All K w mg) : FnM P w K mg base 45 "Reading" "read_part" 4 F_Reading_read_part := ok_Reading_read_part (k := 44) A.T A.d_Reading_read_part ((fn_is_kind A).mono (by decide)) ((fn_Reading_put_off A).mono (by decide)) ((fn_Reading_read_choice A).mono (by decide)) ((fn_is_within A).mono (by decide)) ((fn_copy_of A 40).mono (by decide)) ((fn__steps_of_record A).mono (by decide)) ((fn__steps_of_list A).mono (by decide))
theorem fn_Reading_put_together (A : All K w mg) : FnM P w K mg base 1 "Reading" "put_together" 3 F_Reading_put_together := ok_Reading_put_together (k := 0) A.T A.d_Reading_put_together 
theorem fn_Reading_go_on (A : All K w mg) : FnM P w K mg base 46 "Reading" "go_on" 1 F_Reading_go_on := ok_Reading_go_on (k := 45) A.T A.d_Reading_go_on ((fn_Reading_read_part A).mono (by decide)) ((fn_Reading_put_together A).mono (by decide)) ((fn_Format_of A).mono (by decide)) ((fn_copy_of A 40).mono (by decide))
theorem fn_read_by (A : All K w mg) : Fn P w K mg base 47 "read_by" 3 F_read_by := ok_read_by (k := 45) A.T A.d_read_by ((fn_Reading___init__ A).mono (by decide)) ((fn_Reading_put_off A).mono (by decide)) ((fn_Reading_go_on A).mono (by decide))
theorem fn_read (A : All K w mg) : Fn P w K mg base 48 "read" 2 F_read := ok_read (k := 47) A.T A.d_read ((fn_read_by A).mono (by decide)) ((fn_size_of A).mono (by decide))
theorem fn__law_cell (A : All K w mg) : Fn P w K mg base 1 "_law_cell" 2 F__law_cell := ok__law_cell (k := 0) A.T A.d__law_cell 
theorem fn__law_row (A : All K w mg) : Fn P w K mg base 1 "_law_row" 3 F__law_row_k13 := ok__law_row (k := 0) A.T A.d__law_row 
theorem fn__law_box (A : All K w mg) : Fn P w K mg base 2 "_law_box" 3 F__law_box := ok__law_box (k := 1) A.T A.d__law_box ((fn__law_row A).mono (by decide)) ((fn__law_cell A).mono (by decide))
theorem fn__law_draw (A : All K w mg) : Fn P w K mg base 1 "_law_draw" 2 F__law_draw_k13 := ok__law_draw (k := 0) A.T A.d__law_draw 
theorem fn__law_is_integer (A : All K w mg) : Fn P w K mg base 1 "_law_is_integer" 1 F__law_is_integer := ok__law_is_integer (k := 0) A.T A.d__law_is_integer 
theorem fn__law_same (A : All K w mg) : FnG P w K mg base 1 "_law_same" 2 F__law_same_k19 := ok__law_same (k := 0) A.T A.d__law_same 
theorem fn__law_rank (A : All K w mg) : ∀ n : Nat, Fn P w K mg base (0 + n) "_law_rank" 1 (F__law_rank n)
  | 0 => okD0 A.d__law_rank
  | n + 1 => ok__law_rank (k := 0 + n) A.T A.d__law_rank (fn__law_rank A n)
theorem fn__law_always (A : All K w mg) : Fn P w K mg base 1 "_law_always" 1 F_is_always := ok__law_always (k := 0) A.T A.d__law_always 
theorem fn__law_any (A : All K w mg) : Fn P w K mg base 1 "_law_any" 1 F__law_any := ok__law_any (k := 0) A.T A.d__law_any 
theorem fn__law_lists (A : All K w mg) : Fn P w K mg base 1 "_law_lists" 3 F__law_lists := ok__law_lists (k := 0) A.T A.d__law_lists 
theorem fn__law_records (A : All K w mg) : Fn P w K mg base 2 "_law_records" 3 F__law_records := ok__law_records (k := 1) A.T A.d__law_records ((fn__law_always A).mono (by decide))
theorem fn__law_sized (A : All K w mg) : Fn P w K mg base 3 "_law_sized" 3 F__law_sized := ok__law_sized (k := 2) A.T A.d__law_sized ((fn__law_any A).mono (by decide)) ((fn__law_lists A).mono (by decide)) ((fn__law_records A).mono (by decide))
theorem fn__law_table (A : All K w mg) : Fn P w K mg base 4 "_law_table" 2 F__law_table := ok__law_table (k := 3) A.T A.d__law_table ((fn__law_sized A).mono (by decide))
theorem fn__law_definition (A : All K w mg) : Fn P w K mg base 2 "_law_definition" 2 F__law_definition := ok__law_definition (k := 1) A.T A.d__law_definition ((fn__law_draw A).mono (by decide))
theorem fn__law_filled (A : All K w mg) : Fn P w K mg base 5 "_law_filled" 2 F__law_filled := ok__law_filled (k := 4) A.T A.d__law_filled ((fn__law_table A).mono (by decide)) ((fn__law_draw A).mono (by decide))
theorem fn__law_plain (A : All K w mg) : Fn P w K mg base 3 "_law_plain" 1 F__law_plain := ok__law_plain (k := 2) A.T A.d__law_plain ((fn__law_definition A).mono (by decide)) ((fn__law_draw A).mono (by decide))
theorem fn__law_format (A : All K w mg) : Fn P w K mg base 6 "_law_format" 1 F__law_format := ok__law_format (k := 4) A.T A.d__law_format ((fn__law_filled A).mono (by decide)) ((fn_Format___init__ A).mono (by decide)) ((fn__law_plain A).mono (by decide)) ((fn__law_draw A).mono (by decide))
theorem fn__law_bare (A : All K w mg) : Fn P w K mg base 1 "_law_bare" 1 F__law_bare := ok__law_bare (k := 0) A.T A.d__law_bare 
theorem fn__law_changed (A : All K w mg) : Fn P w K mg base 6 "_law_changed" 2 F__law_changed := ok__law_changed (k := 4) A.T A.d__law_changed ((fn__law_bare A).mono (by decide)) ((fn_Format___init__ A).mono (by decide)) ((fn__law_draw A).mono (by decide)) ((fn__law_filled A).mono (by decide)) ((fn__law_definition A).mono (by decide))
theorem fn__law_drawn (A : All K w mg) : Fn P w K mg base 2 "_law_drawn" 2 F__law_drawn := ok__law_drawn (k := 1) A.T A.d__law_drawn ((fn__law_draw A).mono (by decide))
theorem fn__law_wild (A : All K w mg) : ∀ n : Nat, Fn P w K mg base (2 + n) "_law_wild" 2 (F__law_wild n)
  | 0 => okD0 A.d__law_wild
  | n + 1 => ok__law_wild (k := 2 + n) A.T A.d__law_wild ((fn__law_draw A).mono (by omega)) ((fn__law_drawn A).mono (by omega)) (fn__law_wild A n)
theorem fn__law_spoilt (A : All K w mg) : ∀ n : Nat, Fn P w K mg base (10 + n) "_law_spoilt" 2 (F__law_spoilt_k12 n)
  | 0 => okD0 A.d__law_spoilt
  | n + 1 => ok__law_spoilt (k := 10 + n) A.T A.d__law_spoilt ((fn__law_is_integer A).mono (by omega)) ((fn__law_wild A 8).mono (by omega)) ((fn__law_draw A).mono (by omega)) ((fn__law_drawn A).mono (by omega)) (fn__law_spoilt A n)
theorem fn__law_some_values (A : All K w mg) : Fn P w K mg base 19 "_law_some_values" 3 F__law_some_values := ok__law_some_values (k := 18) A.T A.d__law_some_values ((fn__law_draw A).mono (by decide)) ((fn__law_wild A 8).mono (by decide)) ((fn__law_spoilt A 8).mono (by decide))
theorem fn__law_size (A : All K w mg) : Fn P w K mg base 13 "_law_size" 1 F__law_size_k19 := ok__law_size (k := 12) A.T A.d__law_size ((fn__law_rank A 12).mono (by decide))
theorem fn__law_listed (A : All K w mg) : Fn P w K mg base 11 "_law_listed" 2 F__law_listed := ok__law_listed (k := 8) A.T A.d__law_listed ((fn__law_table A).mono (by decide)) ((fn__law_rank A 8).mono (by decide))
theorem fn_law (A : All K w mg) {f : Addr} {fd : FuncData} (F : L2.Fun K "law" "law" s_law f fd) : FnOkG P w K mg base (L2.CX P w) 49 f fd ["script"] (spM K 1 F_law_k19) := ok_law (k := 48) A.T F ((fn__law_box A).mono (by decide)) ((fn__law_format A).mono (by decide)) ((fn__law_changed A).mono (by decide)) ((fn__law_listed A).mono (by decide)) ((fn__law_some_values A).mono (by decide)) ((fn_read_by A).mono (by decide)) ((fn__law_same A).mono (by decide)) ((fn__law_size A).mono (by decide)) ((fn_read A).mono (by decide))
end
theorem dx_mk {K : PySem.W.Frag} {h : Heap} {mg : Str → Option Value} {x : Str} {st : Stmt} {ps : List Str} {f : Addr} {od an : Option Addr} {sl : Array (Option Value)} {oc kV doc pm cd ct : Value} (X : K.In h) (G : h.Ns mainGlobals mg)
    (a : PySem.W.nsIn K mainGlobals x = some (some (.ref f))) (l : K.lookup f = some ⟨oc, od, .func (PySem.W.fnOf x x (defArgs st) (defBody st) (defScope st) .none kV doc pm an cd ct), sl⟩) (c : PySem.W.codeIn K cd x = true) (k : PySem.W.keepIn K (.ref f) = true)
    (hb : ∀ (kV doc pm : Value) (an : Option Addr) (cdv ct : Value) (us : List Value), us.length = ps.length → bindArgs (PySem.W.fnOf x x (defArgs st) (defBody st) (defScope st) .none kV doc pm an cdv ct) ⟨us, []⟩ = pure (ps.zip us)) : Dx K mg x st ps :=
  ⟨f, _, fun_mk l c k, PySem.W.mg_of X G a, (fun_mk l c k).binds hb⟩
set_option maxHeartbeats 0 in
theorem all_mk {l : PySem.W.OpenLaw} {w : World} {K : PySem.W.Frag} {h : Heap} {mg : Str → Option Value} {fa : Addr} (X : K.In h) (G : h.Ns mainGlobals mg) (hfa : mg "law" = some (.ref fa))
    {C0 : Addr}
    {C1 : Addr}
    {Y0 : Addr}
    {f0 : Addr} {od0 an0 : Option Addr} {sl0 : Array (Option Value)} {oc0 kV0 dc0 pm0 cd0 ct0 : Value}
    {f1 : Addr} {od1 an1 : Option Addr} {sl1 : Array (Option Value)} {oc1 kV1 dc1 pm1 cd1 ct1 : Value}
    {f2 : Addr} {od2 an2 : Option Addr} {sl2 : Array (Option Value)} {oc2 kV2 dc2 pm2 cd2 ct2 : Value}
    {f3 : Addr} {od3 an3 : Option Addr} {sl3 : Array (Option Value)} {oc3 kV3 dc3 pm3 cd3 ct3 : Value}
    {f4 : Addr} {od4 an4 : Option Addr} {sl4 : Array (Option Value)} {oc4 kV4 dc4 pm4 cd4 ct4 : Value}
    {f5 : Addr} {od5 an5 : Option Addr} {sl5 : Array (Option Value)} {oc5 kV5 dc5 pm5 cd5 ct5 : Value}
    {f6 : Addr} {od6 an6 : Option Addr} {sl6 : Array (Option Value)} {oc6 kV6 dc6 pm6 cd6 ct6 : Value}
    {f7 : Addr} {od7 an7 : Option Addr} {sl7 : Array (Option Value)} {oc7 kV7 dc7 pm7 cd7 ct7 : Value}
    {f8 : Addr} {od8 an8 : Option Addr} {sl8 : Array (Option Value)} {oc8 kV8 dc8 pm8 cd8 ct8 : Value}
    {f9 : Addr} {od9 an9 : Option Addr} {sl9 : Array (Option Value)} {oc9 kV9 dc9 pm9 cd9 ct9 : Value}
    {f10 : Addr} {od10 an10 : Option Addr} {sl10 : Array (Option Value)} {oc10 kV10 dc10 pm10 cd10 ct10 : Value}
    {f11 : Addr} {od11 an11 : Option Addr} {sl11 : Array (Option Value)} {oc11 kV11 dc11 pm11 cd11 ct11 : Value}
    {f12 : Addr} {od12 an12 : Option Addr} {sl12 : Array (Option Value)} {oc12 kV12 dc12 pm12 cd12 ct12 : Value}
    {f13 : Addr} {od13 an13 : Option Addr} {sl13 : Array (Option Value)} {oc13 kV13 dc13 pm13 cd13 ct13 : Value}
    {f14 : Addr} {od14 an14 : Option Addr} {sl14 : Array (Option Value)} {oc14 kV14 dc14 pm14 cd14 ct14 : Value}
    {f15 : Addr} {od15 an15 : Option Addr} {sl15 : Array (Option Value)} {oc15 kV15 dc15 pm15 cd15 ct15 : Value}
    {f16 : Addr} {od16 an16 : Option Addr} {sl16 : Array (Option Value)} {oc16 kV16 dc16 pm16 cd16 ct16 : Value}
    {f17 : Addr} {od17 an17 : Option Addr} {sl17 : Array (Option Value)} {oc17 kV17 dc17 pm17 cd17 ct17 : Value}
    {f18 : Addr} {od18 an18 : Option Addr} {sl18 : Array (Option Value)} {oc18 kV18 dc18 pm18 cd18 ct18 : Value}
    {f19 : Addr} {od19 an19 : Option Addr} {sl19 : Array (Option Value)} {oc19 kV19 dc19 pm19 cd19 ct19 : Value}
    {f20 : Addr} {od20 an20 : Option Addr} {sl20 : Array (Option Value)} {oc20 kV20 dc20 pm20 cd20 ct20 : Value}
    {f21 : Addr} {od21 an21 : Option Addr} {sl21 : Array (Option Value)} {oc21 kV21 dc21 pm21 cd21 ct21 : Value}
    {f22 : Addr} {od22 an22 : Option Addr} {sl22 : Array (Option Value)} {oc22 kV22 dc22 pm22 cd22 ct22 : Value}
    {f23 : Addr} {od23 an23 : Option Addr} {sl23 : Array (Option Value)} {oc23 kV23 dc23 pm23 cd23 ct23 : Value}
    {f24 : Addr} {od24 an24 : Option Addr} {sl24 : Array (Option Value)} {oc24 kV24 dc24 pm24 cd24 ct24 : Value}
    {f25 : Addr} {od25 an25 : Option Addr} {sl25 : Array (Option Value)} {oc25 kV25 dc25 pm25 cd25 ct25 : Value}
    {f26 : Addr} {od26 an26 : Option Addr} {sl26 : Array (Option Value)} {oc26 kV26 dc26 pm26 cd26 ct26 : Value}
    {f27 : Addr} {od27 an27 : Option Addr} {sl27 : Array (Option Value)} {oc27 kV27 dc27 pm27 cd27 ct27 : Value}
    {f28 : Addr} {od28 an28 : Option Addr} {sl28 : Array (Option Value)} {oc28 kV28 dc28 pm28 cd28 ct28 : Value}
    {f29 : Addr} {od29 an29 : Option Addr} {sl29 : Array (Option Value)} {oc29 kV29 dc29 pm29 cd29 ct29 : Value}
    {f30 : Addr} {od30 an30 : Option Addr} {sl30 : Array (Option Value)} {oc30 kV30 dc30 pm30 cd30 ct30 : Value}
    {f31 : Addr} {od31 an31 : Option Addr} {sl31 : Array (Option Value)} {oc31 kV31 dc31 pm31 cd31 ct31 : Value}
    {f32 : Addr} {od32 an32 : Option Addr} {sl32 : Array (Option Value)} {oc32 kV32 dc32 pm32 cd32 ct32 : Value}
    {f33 : Addr} {od33 an33 : Option Addr} {sl33 : Array (Option Value)} {oc33 kV33 dc33 pm33 cd33 ct33 : Value}
    {f34 : Addr} {od34 an34 : Option Addr} {sl34 : Array (Option Value)} {oc34 kV34 dc34 pm34 cd34 ct34 : Value}
    {f35 : Addr} {od35 an35 : Option Addr} {sl35 : Array (Option Value)} {oc35 kV35 dc35 pm35 cd35 ct35 : Value}
    {f36 : Addr} {od36 an36 : Option Addr} {sl36 : Array (Option Value)} {oc36 kV36 dc36 pm36 cd36 ct36 : Value}
    {f37 : Addr} {od37 an37 : Option Addr} {sl37 : Array (Option Value)} {oc37 kV37 dc37 pm37 cd37 ct37 : Value}
    {f38 : Addr} {od38 an38 : Option Addr} {sl38 : Array (Option Value)} {oc38 kV38 dc38 pm38 cd38 ct38 : Value}
    {f39 : Addr} {od39 an39 : Option Addr} {sl39 : Array (Option Value)} {oc39 kV39 dc39 pm39 cd39 ct39 : Value}
    {f40 : Addr} {od40 an40 : Option Addr} {sl40 : Array (Option Value)} {oc40 kV40 dc40 pm40 cd40 ct40 : Value}
    {f41 : Addr} {od41 an41 : Option Addr} {sl41 : Array (Option Value)} {oc41 kV41 dc41 pm41 cd41 ct41 : Value}
    {f42 : Addr} {od42 an42 : Option Addr} {sl42 : Array (Option Value)} {oc42 kV42 dc42 pm42 cd42 ct42 : Value}
    {f43 : Addr} {od43 an43 : Option Addr} {sl43 : Array (Option Value)} {oc43 kV43 dc43 pm43 cd43 ct43 : Value}
    {f44 : Addr} {od44 an44 : Option Addr} {sl44 : Array (Option Value)} {oc44 kV44 dc44 pm44 cd44 ct44 : Value}
    {f45 : Addr} {od45 an45 : Option Addr} {sl45 : Array (Option Value)} {oc45 kV45 dc45 pm45 cd45 ct45 : Value}
    {f46 : Addr} {od46 an46 : Option Addr} {sl46 : Array (Option Value)} {oc46 kV46 dc46 pm46 cd46 ct46 : Value}
    {f47 : Addr} {od47 an47 : Option Addr} {sl47 : Array (Option Value)} {oc47 kV47 dc47 pm47 cd47 ct47 : Value}
    {f48 : Addr} {od48 an48 : Option Addr} {sl48 : Array (Option Value)} {oc48 kV48 dc48 pm48 cd48 ct48 : Value}
    {t_CHOICE : Tok}
    {t_INTEGER : Tok}
    {z_KINDS : Addr} {its_KINDS : Array Value} {n_KINDS : Nat}
    {t_LARGEST_SIZE : Tok}
    {t_LIST : Tok}
    {z_REASONS : Addr} {es_REASONS : Array DictEntry} {n_REASONS : Nat}
    {t_REASONS0 : Tok}
    {t_REASONS1 : Tok}
    {t_REASONS2 : Tok}
    {t_RECORD : Tok}
    {t_TEXT : Tok}
    (aC0 : PySem.W.nsIn K mainGlobals "Format" = some (some (.ref C0))) (pg0 : PySem.W.plainGet K C0 Str.empty = true) (hd0 : PySem.W.hasDictIn K C0 = true) (po0 : PySem.W.plainOver K C0 = true) (sa0 : PySem.W.findIn K (.ref C0) "__setattr__" = some (some (.builtin "object.__setattr__"))) (mk0 : PySem.W.makesIn K C0 = true) (kc0 : PySem.W.keepIn K (.ref C0) = true) (na0_0 : PySem.W.findIn K (.ref C0) "definitions" = some none) (na0_1 : PySem.W.findIn K (.ref C0) "root" = some none)
    (aC1 : PySem.W.nsIn K mainGlobals "Reading" = some (some (.ref C1))) (pg1 : PySem.W.plainGet K C1 Str.empty = true) (hd1 : PySem.W.hasDictIn K C1 = true) (po1 : PySem.W.plainOver K C1 = true) (sa1 : PySem.W.findIn K (.ref C1) "__setattr__" = some (some (.builtin "object.__setattr__"))) (mk1 : PySem.W.makesIn K C1 = true) (kc1 : PySem.W.keepIn K (.ref C1) = true) (na1_0 : PySem.W.findIn K (.ref C1) "form" = some none) (na1_1 : PySem.W.findIn K (.ref C1) "made" = some none) (na1_2 : PySem.W.findIn K (.ref C1) "steps" = some none)
    (ya0 : PySem.W.nsIn K mainGlobals "TooLarge" = some (some (.ref Y0))) (ys0 : PySem.W.subIn K (.ref Y0) (.type "BaseException") = some true) (yt0 : PySem.W.typeIn K (.ref Y0) = some (.type "type")) (yk0 : PySem.W.keepIn K (.ref Y0) = true) (yd0 : PySem.W.hasDictIn K Y0 = true) (yg0 : PySem.W.findIn K (.ref Y0) "__getattribute__" = some (some (.builtin "BaseException.__getattribute__"))) (yh0 : PySem.W.findIn K (.ref Y0) "__getattr__" = some none) (yc0 : PySem.W.findIn K (.ref Y0) "__class__" = some (some (.builtin "object.__class__"))) (yn0 : PySem.W.specialIn K (.builtin "object.__class__") "__get__" = some (some (.builtin "getset_descriptor.__get__"))) (yi0 : PySem.W.takesIn K (.builtin "object.__class__") = some true) (ym0 : PySem.W.mroIn K Y0 (.type "object") = some true) (yx0 : PySem.W.excIn K Y0 veB "ValueError.__new__" = true)
    (a0 : PySem.W.nsIn K mainGlobals "kind_of" = some (some (.ref f0))) (l0 : K.lookup f0 = some ⟨oc0, od0, .func (PySem.W.fnOf "kind_of" "kind_of" (defArgs s_kind_of) (defBody s_kind_of) (defScope s_kind_of) .none kV0 dc0 pm0 an0 cd0 ct0), sl0⟩) (c0 : PySem.W.codeIn K cd0 "kind_of" = true) (k0 : PySem.W.keepIn K (.ref f0) = true)
    (a1 : PySem.W.nsIn K mainGlobals "sorted_fields" = some (some (.ref f1))) (l1 : K.lookup f1 = some ⟨oc1, od1, .func (PySem.W.fnOf "sorted_fields" "sorted_fields" (defArgs s_sorted_fields) (defBody s_sorted_fields) (defScope s_sorted_fields) .none kV1 dc1 pm1 an1 cd1 ct1), sl1⟩) (c1 : PySem.W.codeIn K cd1 "sorted_fields" = true) (k1 : PySem.W.keepIn K (.ref f1) = true)
    (a2 : PySem.W.nsIn K mainGlobals "_named_parts" = some (some (.ref f2))) (l2 : K.lookup f2 = some ⟨oc2, od2, .func (PySem.W.fnOf "_named_parts" "_named_parts" (defArgs s__named_parts) (defBody s__named_parts) (defScope s__named_parts) .none kV2 dc2 pm2 an2 cd2 ct2), sl2⟩) (c2 : PySem.W.codeIn K cd2 "_named_parts" = true) (k2 : PySem.W.keepIn K (.ref f2) = true)
    (a3 : PySem.W.nsIn K mainGlobals "parts_of" = some (some (.ref f3))) (l3 : K.lookup f3 = some ⟨oc3, od3, .func (PySem.W.fnOf "parts_of" "parts_of" (defArgs s_parts_of) (defBody s_parts_of) (defScope s_parts_of) .none kV3 dc3 pm3 an3 cd3 ct3), sl3⟩) (c3 : PySem.W.codeIn K cd3 "parts_of" = true) (k3 : PySem.W.keepIn K (.ref f3) = true)
    (a4 : PySem.W.nsIn K mainGlobals "_own_size" = some (some (.ref f4))) (l4 : K.lookup f4 = some ⟨oc4, od4, .func (PySem.W.fnOf "_own_size" "_own_size" (defArgs s__own_size) (defBody s__own_size) (defScope s__own_size) .none kV4 dc4 pm4 an4 cd4 ct4), sl4⟩) (c4 : PySem.W.codeIn K cd4 "_own_size" = true) (k4 : PySem.W.keepIn K (.ref f4) = true)
    (a5 : PySem.W.nsIn K mainGlobals "size_of" = some (some (.ref f5))) (l5 : K.lookup f5 = some ⟨oc5, od5, .func (PySem.W.fnOf "size_of" "size_of" (defArgs s_size_of) (defBody s_size_of) (defScope s_size_of) .none kV5 dc5 pm5 an5 cd5 ct5), sl5⟩) (c5 : PySem.W.codeIn K cd5 "size_of" = true) (k5 : PySem.W.keepIn K (.ref f5) = true)
    (a6 : PySem.W.nsIn K mainGlobals "_has_depth" = some (some (.ref f6))) (l6 : K.lookup f6 = some ⟨oc6, od6, .func (PySem.W.fnOf "_has_depth" "_has_depth" (defArgs s__has_depth) (defBody s__has_depth) (defScope s__has_depth) .none kV6 dc6 pm6 an6 cd6 ct6), sl6⟩) (c6 : PySem.W.codeIn K cd6 "_has_depth" = true) (k6 : PySem.W.keepIn K (.ref f6) = true)
    (a7 : PySem.W.nsIn K mainGlobals "copy_of" = some (some (.ref f7))) (l7 : K.lookup f7 = some ⟨oc7, od7, .func (PySem.W.fnOf "copy_of" "copy_of" (defArgs s_copy_of) (defBody s_copy_of) (defScope s_copy_of) .none kV7 dc7 pm7 an7 cd7 ct7), sl7⟩) (c7 : PySem.W.codeIn K cd7 "copy_of" = true) (k7 : PySem.W.keepIn K (.ref f7) = true)
    (a8 : PySem.W.findIn K (.ref C0) "__init__" = some (some (.ref f8))) (i8 : PySem.W.isFn K (.ref f8) = true) (l8 : K.lookup f8 = some ⟨oc8, od8, .func (PySem.W.fnOf "__init__" "Format.__init__" (defArgs s_Format___init__) (defBody s_Format___init__) (defScope s_Format___init__) .none kV8 dc8 pm8 an8 cd8 ct8), sl8⟩) (c8 : PySem.W.codeIn K cd8 "Format.__init__" = true) (k8 : PySem.W.keepIn K (.ref f8) = true)
    (a9 : PySem.W.findIn K (.ref C0) "of" = some (some (.ref f9))) (i9 : PySem.W.isFn K (.ref f9) = true) (l9 : K.lookup f9 = some ⟨oc9, od9, .func (PySem.W.fnOf "of" "Format.of" (defArgs s_Format_of) (defBody s_Format_of) (defScope s_Format_of) .none kV9 dc9 pm9 an9 cd9 ct9), sl9⟩) (c9 : PySem.W.codeIn K cd9 "Format.of" = true) (k9 : PySem.W.keepIn K (.ref f9) = true)
    (a10 : PySem.W.nsIn K mainGlobals "case_of" = some (some (.ref f10))) (l10 : K.lookup f10 = some ⟨oc10, od10, .func (PySem.W.fnOf "case_of" "case_of" (defArgs s_case_of) (defBody s_case_of) (defScope s_case_of) .none kV10 dc10 pm10 an10 cd10 ct10), sl10⟩) (c10 : PySem.W.codeIn K cd10 "case_of" = true) (k10 : PySem.W.keepIn K (.ref f10) = true)
    (a11 : PySem.W.nsIn K mainGlobals "is_kind" = some (some (.ref f11))) (l11 : K.lookup f11 = some ⟨oc11, od11, .func (PySem.W.fnOf "is_kind" "is_kind" (defArgs s_is_kind) (defBody s_is_kind) (defScope s_is_kind) .none kV11 dc11 pm11 an11 cd11 ct11), sl11⟩) (c11 : PySem.W.codeIn K cd11 "is_kind" = true) (k11 : PySem.W.keepIn K (.ref f11) = true)
    (a12 : PySem.W.nsIn K mainGlobals "is_within" = some (some (.ref f12))) (l12 : K.lookup f12 = some ⟨oc12, od12, .func (PySem.W.fnOf "is_within" "is_within" (defArgs s_is_within) (defBody s_is_within) (defScope s_is_within) .none kV12 dc12 pm12 an12 cd12 ct12), sl12⟩) (c12 : PySem.W.codeIn K cd12 "is_within" = true) (k12 : PySem.W.keepIn K (.ref f12) = true)
    (a13 : PySem.W.findIn K (.ref C1) "__init__" = some (some (.ref f13))) (i13 : PySem.W.isFn K (.ref f13) = true) (l13 : K.lookup f13 = some ⟨oc13, od13, .func (PySem.W.fnOf "__init__" "Reading.__init__" (defArgs s_Reading___init__) (defBody s_Reading___init__) (defScope s_Reading___init__) .none kV13 dc13 pm13 an13 cd13 ct13), sl13⟩) (c13 : PySem.W.codeIn K cd13 "Reading.__init__" = true) (k13 : PySem.W.keepIn K (.ref f13) = true)
    (a14 : PySem.W.findIn K (.ref C1) "put_off" = some (some (.ref f14))) (i14 : PySem.W.isFn K (.ref f14) = true) (l14 : K.lookup f14 = some ⟨oc14, od14, .func (PySem.W.fnOf "put_off" "Reading.put_off" (defArgs s_Reading_put_off) (defBody s_Reading_put_off) (defScope s_Reading_put_off) .none kV14 dc14 pm14 an14 cd14 ct14), sl14⟩) (c14 : PySem.W.codeIn K cd14 "Reading.put_off" = true) (k14 : PySem.W.keepIn K (.ref f14) = true)
    (a15 : PySem.W.findIn K (.ref C1) "go_on" = some (some (.ref f15))) (i15 : PySem.W.isFn K (.ref f15) = true) (l15 : K.lookup f15 = some ⟨oc15, od15, .func (PySem.W.fnOf "go_on" "Reading.go_on" (defArgs s_Reading_go_on) (defBody s_Reading_go_on) (defScope s_Reading_go_on) .none kV15 dc15 pm15 an15 cd15 ct15), sl15⟩) (c15 : PySem.W.codeIn K cd15 "Reading.go_on" = true) (k15 : PySem.W.keepIn K (.ref f15) = true)
    (a16 : PySem.W.findIn K (.ref C1) "read_part" = some (some (.ref f16))) (i16 : PySem.W.isFn K (.ref f16) = true) (l16 : K.lookup f16 = some ⟨oc16, od16, .func (PySem.W.fnOf "read_part" "Reading.read_part" (defArgs s_Reading_read_part) (defBody s_Reading_read_part) (defScope s_Reading_read_part) .none kV16 dc16 pm16 an16 cd16 ct16), sl16⟩) (c16 : PySem.W.codeIn K cd16 "Reading.read_part" = true) (k16 : PySem.W.keepIn K (.ref f16) = true)
    (a17 : PySem.W.findIn K (.ref C1) "read_choice" = some (some (.ref f17))) (i17 : PySem.W.isFn K (.ref f17) = true) (l17 : K.lookup f17 = some ⟨oc17, od17, .func (PySem.W.fnOf "read_choice" "Reading.read_choice" (defArgs s_Reading_read_choice) (defBody s_Reading_read_choice) (defScope s_Reading_read_choice) .none kV17 dc17 pm17 an17 cd17 ct17), sl17⟩) (c17 : PySem.W.codeIn K cd17 "Reading.read_choice" = true) (k17 : PySem.W.keepIn K (.ref f17) = true)
    (a18 : PySem.W.findIn K (.ref C1) "put_together" = some (some (.ref f18))) (i18 : PySem.W.isFn K (.ref f18) = true) (l18 : K.lookup f18 = some ⟨oc18, od18, .func (PySem.W.fnOf "put_together" "Reading.put_together" (defArgs s_Reading_put_together) (defBody s_Reading_put_together) (defScope s_Reading_put_together) .none kV18 dc18 pm18 an18 cd18 ct18), sl18⟩) (c18 : PySem.W.codeIn K cd18 "Reading.put_together" = true) (k18 : PySem.W.keepIn K (.ref f18) = true)
    (a19 : PySem.W.nsIn K mainGlobals "_steps_of_list" = some (some (.ref f19))) (l19 : K.lookup f19 = some ⟨oc19, od19, .func (PySem.W.fnOf "_steps_of_list" "_steps_of_list" (defArgs s__steps_of_list) (defBody s__steps_of_list) (defScope s__steps_of_list) .none kV19 dc19 pm19 an19 cd19 ct19), sl19⟩) (c19 : PySem.W.codeIn K cd19 "_steps_of_list" = true) (k19 : PySem.W.keepIn K (.ref f19) = true)
    (a20 : PySem.W.nsIn K mainGlobals "_steps_of_record" = some (some (.ref f20))) (l20 : K.lookup f20 = some ⟨oc20, od20, .func (PySem.W.fnOf "_steps_of_record" "_steps_of_record" (defArgs s__steps_of_record) (defBody s__steps_of_record) (defScope s__steps_of_record) .none kV20 dc20 pm20 an20 cd20 ct20), sl20⟩) (c20 : PySem.W.codeIn K cd20 "_steps_of_record" = true) (k20 : PySem.W.keepIn K (.ref f20) = true)
    (a21 : PySem.W.nsIn K mainGlobals "read_by" = some (some (.ref f21))) (l21 : K.lookup f21 = some ⟨oc21, od21, .func (PySem.W.fnOf "read_by" "read_by" (defArgs s_read_by) (defBody s_read_by) (defScope s_read_by) .none kV21 dc21 pm21 an21 cd21 ct21), sl21⟩) (c21 : PySem.W.codeIn K cd21 "read_by" = true) (k21 : PySem.W.keepIn K (.ref f21) = true)
    (a22 : PySem.W.nsIn K mainGlobals "read" = some (some (.ref f22))) (l22 : K.lookup f22 = some ⟨oc22, od22, .func (PySem.W.fnOf "read" "read" (defArgs s_read) (defBody s_read) (defScope s_read) .none kV22 dc22 pm22 an22 cd22 ct22), sl22⟩) (c22 : PySem.W.codeIn K cd22 "read" = true) (k22 : PySem.W.keepIn K (.ref f22) = true)
    (a23 : PySem.W.nsIn K mainGlobals "_law_cell" = some (some (.ref f23))) (l23 : K.lookup f23 = some ⟨oc23, od23, .func (PySem.W.fnOf "_law_cell" "_law_cell" (defArgs s__law_cell) (defBody s__law_cell) (defScope s__law_cell) .none kV23 dc23 pm23 an23 cd23 ct23), sl23⟩) (c23 : PySem.W.codeIn K cd23 "_law_cell" = true) (k23 : PySem.W.keepIn K (.ref f23) = true)
    (a24 : PySem.W.nsIn K mainGlobals "_law_row" = some (some (.ref f24))) (l24 : K.lookup f24 = some ⟨oc24, od24, .func (PySem.W.fnOf "_law_row" "_law_row" (defArgs s__law_row) (defBody s__law_row) (defScope s__law_row) .none kV24 dc24 pm24 an24 cd24 ct24), sl24⟩) (c24 : PySem.W.codeIn K cd24 "_law_row" = true) (k24 : PySem.W.keepIn K (.ref f24) = true)
    (a25 : PySem.W.nsIn K mainGlobals "_law_box" = some (some (.ref f25))) (l25 : K.lookup f25 = some ⟨oc25, od25, .func (PySem.W.fnOf "_law_box" "_law_box" (defArgs s__law_box) (defBody s__law_box) (defScope s__law_box) .none kV25 dc25 pm25 an25 cd25 ct25), sl25⟩) (c25 : PySem.W.codeIn K cd25 "_law_box" = true) (k25 : PySem.W.keepIn K (.ref f25) = true)
    (a26 : PySem.W.nsIn K mainGlobals "_law_draw" = some (some (.ref f26))) (l26 : K.lookup f26 = some ⟨oc26, od26, .func (PySem.W.fnOf "_law_draw" "_law_draw" (defArgs s__law_draw) (defBody s__law_draw) (defScope s__law_draw) .none kV26 dc26 pm26 an26 cd26 ct26), sl26⟩) (c26 : PySem.W.codeIn K cd26 "_law_draw" = true) (k26 : PySem.W.keepIn K (.ref f26) = true)
    (a27 : PySem.W.nsIn K mainGlobals "_law_is_integer" = some (some (.ref f27))) (l27 : K.lookup f27 = some ⟨oc27, od27, .func (PySem.W.fnOf "_law_is_integer" "_law_is_integer" (defArgs s__law_is_integer) (defBody s__law_is_integer) (defScope s__law_is_integer) .none kV27 dc27 pm27 an27 cd27 ct27), sl27⟩) (c27 : PySem.W.codeIn K cd27 "_law_is_integer" = true) (k27 : PySem.W.keepIn K (.ref f27) = true)
    (a28 : PySem.W.nsIn K mainGlobals "_law_same" = some (some (.ref f28))) (l28 : K.lookup f28 = some ⟨oc28, od28, .func (PySem.W.fnOf "_law_same" "_law_same" (defArgs s__law_same) (defBody s__law_same) (defScope s__law_same) .none kV28 dc28 pm28 an28 cd28 ct28), sl28⟩) (c28 : PySem.W.codeIn K cd28 "_law_same" = true) (k28 : PySem.W.keepIn K (.ref f28) = true)
    (a29 : PySem.W.nsIn K mainGlobals "_law_rank" = some (some (.ref f29))) (l29 : K.lookup f29 = some ⟨oc29, od29, .func (PySem.W.fnOf "_law_rank" "_law_rank" (defArgs s__law_rank) (defBody s__law_rank) (defScope s__law_rank) .none kV29 dc29 pm29 an29 cd29 ct29), sl29⟩) (c29 : PySem.W.codeIn K cd29 "_law_rank" = true) (k29 : PySem.W.keepIn K (.ref f29) = true)
    (a30 : PySem.W.nsIn K mainGlobals "_law_always" = some (some (.ref f30))) (l30 : K.lookup f30 = some ⟨oc30, od30, .func (PySem.W.fnOf "_law_always" "_law_always" (defArgs s__law_always) (defBody s__law_always) (defScope s__law_always) .none kV30 dc30 pm30 an30 cd30 ct30), sl30⟩) (c30 : PySem.W.codeIn K cd30 "_law_always" = true) (k30 : PySem.W.keepIn K (.ref f30) = true)
    (a31 : PySem.W.nsIn K mainGlobals "_law_any" = some (some (.ref f31))) (l31 : K.lookup f31 = some ⟨oc31, od31, .func (PySem.W.fnOf "_law_any" "_law_any" (defArgs s__law_any) (defBody s__law_any) (defScope s__law_any) .none kV31 dc31 pm31 an31 cd31 ct31), sl31⟩) (c31 : PySem.W.codeIn K cd31 "_law_any" = true) (k31 : PySem.W.keepIn K (.ref f31) = true)
    (a32 : PySem.W.nsIn K mainGlobals "_law_lists" = some (some (.ref f32))) (l32 : K.lookup f32 = some ⟨oc32, od32, .func (PySem.W.fnOf "_law_lists" "_law_lists" (defArgs s__law_lists) (defBody s__law_lists) (defScope s__law_lists) .none kV32 dc32 pm32 an32 cd32 ct32), sl32⟩) (c32 : PySem.W.codeIn K cd32 "_law_lists" = true) (k32 : PySem.W.keepIn K (.ref f32) = true)
    (a33 : PySem.W.nsIn K mainGlobals "_law_records" = some (some (.ref f33))) (l33 : K.lookup f33 = some ⟨oc33, od33, .func (PySem.W.fnOf "_law_records" "_law_records" (defArgs s__law_records) (defBody s__law_records) (defScope s__law_records) .none kV33 dc33 pm33 an33 cd33 ct33), sl33⟩) (c33 : PySem.W.codeIn K cd33 "_law_records" = true) (k33 : PySem.W.keepIn K (.ref f33) = true)
    (a34 : PySem.W.nsIn K mainGlobals "_law_sized" = some (some (.ref f34))) (l34 : K.lookup f34 = some ⟨oc34, od34, .func (PySem.W.fnOf "_law_sized" "_law_sized" (defArgs s__law_sized) (defBody s__law_sized) (defScope s__law_sized) .none kV34 dc34 pm34 an34 cd34 ct34), sl34⟩) (c34 : PySem.W.codeIn K cd34 "_law_sized" = true) (k34 : PySem.W.keepIn K (.ref f34) = true)
    (a35 : PySem.W.nsIn K mainGlobals "_law_table" = some (some (.ref f35))) (l35 : K.lookup f35 = some ⟨oc35, od35, .func (PySem.W.fnOf "_law_table" "_law_table" (defArgs s__law_table) (defBody s__law_table) (defScope s__law_table) .none kV35 dc35 pm35 an35 cd35 ct35), sl35⟩) (c35 : PySem.W.codeIn K cd35 "_law_table" = true) (k35 : PySem.W.keepIn K (.ref f35) = true)
    (a36 : PySem.W.nsIn K mainGlobals "_law_definition" = some (some (.ref f36))) (l36 : K.lookup f36 = some ⟨oc36, od36, .func (PySem.W.fnOf "_law_definition" "_law_definition" (defArgs s__law_definition) (defBody s__law_definition) (defScope s__law_definition) .none kV36 dc36 pm36 an36 cd36 ct36), sl36⟩) (c36 : PySem.W.codeIn K cd36 "_law_definition" = true) (k36 : PySem.W.keepIn K (.ref f36) = true)
    (a37 : PySem.W.nsIn K mainGlobals "_law_filled" = some (some (.ref f37))) (l37 : K.lookup f37 = some ⟨oc37, od37, .func (PySem.W.fnOf "_law_filled" "_law_filled" (defArgs s__law_filled) (defBody s__law_filled) (defScope s__law_filled) .none kV37 dc37 pm37 an37 cd37 ct37), sl37⟩) (c37 : PySem.W.codeIn K cd37 "_law_filled" = true) (k37 : PySem.W.keepIn K (.ref f37) = true)
    (a38 : PySem.W.nsIn K mainGlobals "_law_plain" = some (some (.ref f38))) (l38 : K.lookup f38 = some ⟨oc38, od38, .func (PySem.W.fnOf "_law_plain" "_law_plain" (defArgs s__law_plain) (defBody s__law_plain) (defScope s__law_plain) .none kV38 dc38 pm38 an38 cd38 ct38), sl38⟩) (c38 : PySem.W.codeIn K cd38 "_law_plain" = true) (k38 : PySem.W.keepIn K (.ref f38) = true)
    (a39 : PySem.W.nsIn K mainGlobals "_law_format" = some (some (.ref f39))) (l39 : K.lookup f39 = some ⟨oc39, od39, .func (PySem.W.fnOf "_law_format" "_law_format" (defArgs s__law_format) (defBody s__law_format) (defScope s__law_format) .none kV39 dc39 pm39 an39 cd39 ct39), sl39⟩) (c39 : PySem.W.codeIn K cd39 "_law_format" = true) (k39 : PySem.W.keepIn K (.ref f39) = true)
    (a40 : PySem.W.nsIn K mainGlobals "_law_bare" = some (some (.ref f40))) (l40 : K.lookup f40 = some ⟨oc40, od40, .func (PySem.W.fnOf "_law_bare" "_law_bare" (defArgs s__law_bare) (defBody s__law_bare) (defScope s__law_bare) .none kV40 dc40 pm40 an40 cd40 ct40), sl40⟩) (c40 : PySem.W.codeIn K cd40 "_law_bare" = true) (k40 : PySem.W.keepIn K (.ref f40) = true)
    (a41 : PySem.W.nsIn K mainGlobals "_law_changed" = some (some (.ref f41))) (l41 : K.lookup f41 = some ⟨oc41, od41, .func (PySem.W.fnOf "_law_changed" "_law_changed" (defArgs s__law_changed) (defBody s__law_changed) (defScope s__law_changed) .none kV41 dc41 pm41 an41 cd41 ct41), sl41⟩) (c41 : PySem.W.codeIn K cd41 "_law_changed" = true) (k41 : PySem.W.keepIn K (.ref f41) = true)
    (a42 : PySem.W.nsIn K mainGlobals "_law_drawn" = some (some (.ref f42))) (l42 : K.lookup f42 = some ⟨oc42, od42, .func (PySem.W.fnOf "_law_drawn" "_law_drawn" (defArgs s__law_drawn) (defBody s__law_drawn) (defScope s__law_drawn) .none kV42 dc42 pm42 an42 cd42 ct42), sl42⟩) (c42 : PySem.W.codeIn K cd42 "_law_drawn" = true) (k42 : PySem.W.keepIn K (.ref f42) = true)
    (a43 : PySem.W.nsIn K mainGlobals "_law_wild" = some (some (.ref f43))) (l43 : K.lookup f43 = some ⟨oc43, od43, .func (PySem.W.fnOf "_law_wild" "_law_wild" (defArgs s__law_wild) (defBody s__law_wild) (defScope s__law_wild) .none kV43 dc43 pm43 an43 cd43 ct43), sl43⟩) (c43 : PySem.W.codeIn K cd43 "_law_wild" = true) (k43 : PySem.W.keepIn K (.ref f43) = true)
    (a44 : PySem.W.nsIn K mainGlobals "_law_spoilt" = some (some (.ref f44))) (l44 : K.lookup f44 = some ⟨oc44, od44, .func (PySem.W.fnOf "_law_spoilt" "_law_spoilt" (defArgs s__law_spoilt) (defBody s__law_spoilt) (defScope s__law_spoilt) .none kV44 dc44 pm44 an44 cd44 ct44), sl44⟩) (c44 : PySem.W.codeIn K cd44 "_law_spoilt" = true) (k44 : PySem.W.keepIn K (.ref f44) = true)
    (a45 : PySem.W.nsIn K mainGlobals "_law_some_values" = some (some (.ref f45))) (l45 : K.lookup f45 = some ⟨oc45, od45, .func (PySem.W.fnOf "_law_some_values" "_law_some_values" (defArgs s__law_some_values) (defBody s__law_some_values) (defScope s__law_some_values) .none kV45 dc45 pm45 an45 cd45 ct45), sl45⟩) (c45 : PySem.W.codeIn K cd45 "_law_some_values" = true) (k45 : PySem.W.keepIn K (.ref f45) = true)
    (a46 : PySem.W.nsIn K mainGlobals "_law_size" = some (some (.ref f46))) (l46 : K.lookup f46 = some ⟨oc46, od46, .func (PySem.W.fnOf "_law_size" "_law_size" (defArgs s__law_size) (defBody s__law_size) (defScope s__law_size) .none kV46 dc46 pm46 an46 cd46 ct46), sl46⟩) (c46 : PySem.W.codeIn K cd46 "_law_size" = true) (k46 : PySem.W.keepIn K (.ref f46) = true)
    (a47 : PySem.W.nsIn K mainGlobals "_law_listed" = some (some (.ref f47))) (l47 : K.lookup f47 = some ⟨oc47, od47, .func (PySem.W.fnOf "_law_listed" "_law_listed" (defArgs s__law_listed) (defBody s__law_listed) (defScope s__law_listed) .none kV47 dc47 pm47 an47 cd47 ct47), sl47⟩) (c47 : PySem.W.codeIn K cd47 "_law_listed" = true) (k47 : PySem.W.keepIn K (.ref f47) = true)
    (a48 : PySem.W.nsIn K mainGlobals "law" = some (some (.ref f48))) (l48 : K.lookup f48 = some ⟨oc48, od48, .func (PySem.W.fnOf "law" "law" (defArgs s_law) (defBody s_law) (defScope s_law) .none kV48 dc48 pm48 an48 cd48 ct48), sl48⟩) (c48 : PySem.W.codeIn K cd48 "law" = true) (k48 : PySem.W.keepIn K (.ref f48) = true)
    (g_CHOICE : PySem.W.nsIn K mainGlobals "CHOICE" = some (some (.int 4 t_CHOICE)))
    (g_INTEGER : PySem.W.nsIn K mainGlobals "INTEGER" = some (some (.int 0 t_INTEGER)))
    (g_KINDS : PySem.W.nsIn K mainGlobals "KINDS" = some (some (.ref z_KINDS))) (l_KINDS : K.lookup z_KINDS = some ⟨.type "tuple", none, .seq its_KINDS n_KINDS, #[]⟩) (y_KINDS : txtsB its_KINDS.toList (["integer", "text", "list", "record", "choice"] : List Str) = true)
    (g_LARGEST_SIZE : PySem.W.nsIn K mainGlobals "LARGEST_SIZE" = some (some (.int 300 t_LARGEST_SIZE)))
    (g_LIST : PySem.W.nsIn K mainGlobals "LIST" = some (some (.int 2 t_LIST)))
    (g_REASONS : PySem.W.nsIn K mainGlobals "REASONS" = some (some (.ref z_REASONS))) (l_REASONS : K.lookup z_REASONS = some ⟨.type "dict", none, .dict es_REASONS n_REASONS, #[]⟩) (y_REASONS : PySem.W.KeysLit w.params es_REASONS.toList) (v_REASONS0 : PySem.W.nsIn K z_REASONS "integer" = some (some (.str "out of range" t_REASONS0))) (v_REASONS1 : PySem.W.nsIn K z_REASONS "text" = some (some (.str "too long" t_REASONS1))) (v_REASONS2 : PySem.W.nsIn K z_REASONS "list" = some (some (.str "wrong length" t_REASONS2)))
    (g_RECORD : PySem.W.nsIn K mainGlobals "RECORD" = some (some (.int 3 t_RECORD)))
    (g_TEXT : PySem.W.nsIn K mainGlobals "TEXT" = some (some (.int 1 t_TEXT)))
    (g_abs : PySem.W.nsIn K mainGlobals "abs" = some none)
    (g_bool : PySem.W.nsIn K mainGlobals "bool" = some none)
    (g_dict : PySem.W.nsIn K mainGlobals "dict" = some none)
    (g_enumerate : PySem.W.nsIn K mainGlobals "enumerate" = some none)
    (g_int : PySem.W.nsIn K mainGlobals "int" = some none)
    (g_isinstance : PySem.W.nsIn K mainGlobals "isinstance" = some none)
    (g_len : PySem.W.nsIn K mainGlobals "len" = some none)
    (g_list : PySem.W.nsIn K mainGlobals "list" = some none)
    (g_max : PySem.W.nsIn K mainGlobals "max" = some none)
    (g_min : PySem.W.nsIn K mainGlobals "min" = some none)
    (g_range : PySem.W.nsIn K mainGlobals "range" = some none)
    (g_repr : PySem.W.nsIn K mainGlobals "repr" = some none)
    (g_sorted : PySem.W.nsIn K mainGlobals "sorted" = some none)
    (g_str : PySem.W.nsIn K mainGlobals "str" = some none)
    (g_sum : PySem.W.nsIn K mainGlobals "sum" = some none)
    (g_tuple : PySem.W.nsIn K mainGlobals "tuple" = some none)
    (g_zip : PySem.W.nsIn K mainGlobals "zip" = some none) :
    ∃ fd : FuncData, (∀ (s : Shared) (v : Value), BindsTo s fd ⟨[v], []⟩ [("script", v)]) ∧ ∀ base : Heap, K.In base → base.Ns mainGlobals mg → FnOkG l.prog w K mg base (L2.CX l.prog w) 49 fa fd ["script"] (spM K 1 F_law_k19) := by
  have e := hfa.symm.trans (PySem.W.mg_of X G a48)
  cases e
  have A : All K w mg := ⟨⟨(clsd_mk aC0 ⟨pg0, hd0, po0, sa0⟩ (by intro f hf; simp only [List.mem_cons, List.not_mem_nil, or_false] at hf; rcases hf with rfl | rfl <;> assumption)), (clsd_mk aC1 ⟨pg1, hd1, po1, sa1⟩ (by intro f hf; simp only [List.mem_cons, List.not_mem_nil, or_false] at hf; rcases hf with rfl | rfl | rfl <;> assumption)), (exk_mk X G ya0 yx0 yk0 ys0 yt0), ⟨_, PySem.W.mg_of X G g_CHOICE⟩, ⟨_, PySem.W.mg_of X G g_INTEGER⟩, (kts_mk X G g_KINDS l_KINDS y_KINDS (by decide)), ⟨_, PySem.W.mg_of X G g_LARGEST_SIZE⟩, ⟨_, PySem.W.mg_of X G g_LIST⟩, (kds_mk X G g_REASONS l_REASONS y_REASONS (by intro k v hm; simp only [List.mem_cons, List.not_mem_nil, or_false, Prod.mk.injEq] at hm; rcases hm with ⟨rfl, rfl⟩ | ⟨rfl, rfl⟩ | ⟨rfl, rfl⟩ <;> exact ⟨_, by assumption⟩)), ⟨_, PySem.W.mg_of X G g_RECORD⟩, ⟨_, PySem.W.mg_of X G g_TEXT⟩, PySem.W.mg_none_of X G g_abs, PySem.W.mg_none_of X G g_bool, PySem.W.mg_none_of X G g_dict, PySem.W.mg_none_of X G g_enumerate, PySem.W.mg_none_of X G g_int, PySem.W.mg_none_of X G g_isinstance, PySem.W.mg_none_of X G g_len, PySem.W.mg_none_of X G g_list, PySem.W.mg_none_of X G g_max, PySem.W.mg_none_of X G g_min, PySem.W.mg_none_of X G g_range, PySem.W.mg_none_of X G g_repr, PySem.W.mg_none_of X G g_sorted, PySem.W.mg_none_of X G g_str, PySem.W.mg_none_of X G g_sum, PySem.W.mg_none_of X G g_tuple, PySem.W.mg_none_of X G g_zip⟩, dx_mk X G a0 l0 c0 k0 (fun _ _ _ _ _ _ us hl => match us, hl with | [_], _ => rfl),
    dx_mk X G a1 l1 c1 k1 (fun _ _ _ _ _ _ us hl => match us, hl with | [_], _ => rfl),
    dx_mk X G a2 l2 c2 k2 (fun _ _ _ _ _ _ us hl => match us, hl with | [_], _ => rfl),
    dx_mk X G a3 l3 c3 k3 (fun _ _ _ _ _ _ us hl => match us, hl with | [_], _ => rfl),
    dx_mk X G a4 l4 c4 k4 (fun _ _ _ _ _ _ us hl => match us, hl with | [_], _ => rfl),
    dx_mk X G a5 l5 c5 k5 (fun _ _ _ _ _ _ us hl => match us, hl with | [_], _ => rfl),
    dx_mk X G a6 l6 c6 k6 (fun _ _ _ _ _ _ us hl => match us, hl with | [_], _ => rfl),
    dx_mk X G a7 l7 c7 k7 (fun _ _ _ _ _ _ us hl => match us, hl with | [_], _ => rfl),
    (dxi_mk X G aC0 mk0 kc0 a8 i8 l8 c8 k8 (fun _ _ _ _ _ _ us hl => match us, hl with | [_, _, _], _ => rfl)),
    (dxm_mk (h := h) aC0 ⟨pg0, hd0, po0, sa0⟩ a9 i9 l9 c9 k9 (fun _ _ _ _ _ _ us hl => match us, hl with | [_, _], _ => rfl)),
    dx_mk X G a10 l10 c10 k10 (fun _ _ _ _ _ _ us hl => match us, hl with | [_, _], _ => rfl),
    dx_mk X G a11 l11 c11 k11 (fun _ _ _ _ _ _ us hl => match us, hl with | [_, _], _ => rfl),
    dx_mk X G a12 l12 c12 k12 (fun _ _ _ _ _ _ us hl => match us, hl with | [_, _], _ => rfl),
    (dxi_mk X G aC1 mk1 kc1 a13 i13 l13 c13 k13 (fun _ _ _ _ _ _ us hl => match us, hl with | [_, _], _ => rfl)),
    (dxm_mk (h := h) aC1 ⟨pg1, hd1, po1, sa1⟩ a14 i14 l14 c14 k14 (fun _ _ _ _ _ _ us hl => match us, hl with | [_, _], _ => rfl)),
    (dxm_mk (h := h) aC1 ⟨pg1, hd1, po1, sa1⟩ a15 i15 l15 c15 k15 (fun _ _ _ _ _ _ us hl => match us, hl with | [_], _ => rfl)),
    (dxm_mk (h := h) aC1 ⟨pg1, hd1, po1, sa1⟩ a16 i16 l16 c16 k16 (fun _ _ _ _ _ _ us hl => match us, hl with | [_, _, _, _], _ => rfl)),
    (dxm_mk (h := h) aC1 ⟨pg1, hd1, po1, sa1⟩ a17 i17 l17 c17 k17 (fun _ _ _ _ _ _ us hl => match us, hl with | [_, _, _, _], _ => rfl)),
    (dxm_mk (h := h) aC1 ⟨pg1, hd1, po1, sa1⟩ a18 i18 l18 c18 k18 (fun _ _ _ _ _ _ us hl => match us, hl with | [_, _, _], _ => rfl)),
    dx_mk X G a19 l19 c19 k19 (fun _ _ _ _ _ _ us hl => match us, hl with | [_, _, _], _ => rfl),
    dx_mk X G a20 l20 c20 k20 (fun _ _ _ _ _ _ us hl => match us, hl with | [_, _, _], _ => rfl),
    dx_mk X G a21 l21 c21 k21 (fun _ _ _ _ _ _ us hl => match us, hl with | [_, _, _], _ => rfl),
    dx_mk X G a22 l22 c22 k22 (fun _ _ _ _ _ _ us hl => match us, hl with | [_, _], _ => rfl),
    dx_mk X G a23 l23 c23 k23 (fun _ _ _ _ _ _ us hl => match us, hl with | [_, _], _ => rfl),
    dx_mk X G a24 l24 c24 k24 (fun _ _ _ _ _ _ us hl => match us, hl with | [_, _, _], _ => rfl),
    dx_mk X G a25 l25 c25 k25 (fun _ _ _ _ _ _ us hl => match us, hl with | [_, _, _], _ => rfl),
    dx_mk X G a26 l26 c26 k26 (fun _ _ _ _ _ _ us hl => match us, hl with | [_, _], _ => rfl),
    dx_mk X G a27 l27 c27 k27 (fun _ _ _ _ _ _ us hl => match us, hl with | [_], _ => rfl),
    dx_mk X G a28 l28 c28 k28 (fun _ _ _ _ _ _ us hl => match us, hl with | [_, _], _ => rfl),
    dx_mk X G a29 l29 c29 k29 (fun _ _ _ _ _ _ us hl => match us, hl with | [_], _ => rfl),
    dx_mk X G a30 l30 c30 k30 (fun _ _ _ _ _ _ us hl => match us, hl with | [_], _ => rfl),
    dx_mk X G a31 l31 c31 k31 (fun _ _ _ _ _ _ us hl => match us, hl with | [_], _ => rfl),
    dx_mk X G a32 l32 c32 k32 (fun _ _ _ _ _ _ us hl => match us, hl with | [_, _, _], _ => rfl),
    dx_mk X G a33 l33 c33 k33 (fun _ _ _ _ _ _ us hl => match us, hl with | [_, _, _], _ => rfl),
    dx_mk X G a34 l34 c34 k34 (fun _ _ _ _ _ _ us hl => match us, hl with | [_, _, _], _ => rfl),
    dx_mk X G a35 l35 c35 k35 (fun _ _ _ _ _ _ us hl => match us, hl with | [_, _], _ => rfl),
    dx_mk X G a36 l36 c36 k36 (fun _ _ _ _ _ _ us hl => match us, hl with | [_, _], _ => rfl),
    dx_mk X G a37 l37 c37 k37 (fun _ _ _ _ _ _ us hl => match us, hl with | [_, _], _ => rfl),
    dx_mk X G a38 l38 c38 k38 (fun _ _ _ _ _ _ us hl => match us, hl with | [_], _ => rfl),
    dx_mk X G a39 l39 c39 k39 (fun _ _ _ _ _ _ us hl => match us, hl with | [_], _ => rfl),
    dx_mk X G a40 l40 c40 k40 (fun _ _ _ _ _ _ us hl => match us, hl with | [_], _ => rfl),
    dx_mk X G a41 l41 c41 k41 (fun _ _ _ _ _ _ us hl => match us, hl with | [_, _], _ => rfl),
    dx_mk X G a42 l42 c42 k42 (fun _ _ _ _ _ _ us hl => match us, hl with | [_, _], _ => rfl),
    dx_mk X G a43 l43 c43 k43 (fun _ _ _ _ _ _ us hl => match us, hl with | [_, _], _ => rfl),
    dx_mk X G a44 l44 c44 k44 (fun _ _ _ _ _ _ us hl => match us, hl with | [_, _], _ => rfl),
    dx_mk X G a45 l45 c45 k45 (fun _ _ _ _ _ _ us hl => match us, hl with | [_, _, _], _ => rfl),
    dx_mk X G a46 l46 c46 k46 (fun _ _ _ _ _ _ us hl => match us, hl with | [_], _ => rfl),
    dx_mk X G a47 l47 c47 k47 (fun _ _ _ _ _ _ us hl => match us, hl with | [_, _], _ => rfl)⟩
  exact ⟨_, fun s v => .of_eq rfl, fun base _ _ => fn_law A (fun_mk (st := s_law) l48 c48 k48)⟩
theorem walk {l : PySem.W.OpenLaw} {q : Program} {loose : List Str} {XP : (Str → Option Value) → Heap → Prop} {YP : World → Heap → Prop} {d : DefRec} {K : Params → PySem.W.Frag} (hn : l.most = some 63) (hdf : d.params.defaults = [])
    (hY : ∀ (w : World) (h : Heap), YP w h → (K w.params).In h)
    (F : ∀ (w : World) (mg : Str → Option Value) (fa : Addr) (h : Heap), (K w.params).In h → h.Ns mainGlobals mg → mg d.name = some (.ref fa) →
      ∃ fd : FuncData, (∀ (s : Shared) (u : Value), BindsTo s fd ⟨[u], []⟩ [("script", u)]) ∧ ∀ base : Heap, (K w.params).In base → base.Ns mainGlobals mg → FnOkG l.prog w (K w.params) mg base (L2.CX l.prog w) 49 fa fd ["script"] (spM (K w.params) 1 F_law_k19))
    (hlaw : ∀ ns : List Int, ns.length ≤ 63 → ∃ μ, F_law_k19 [.d (.kl ns)] [] = some (.ok (.d (.bl true)) μ)) :
    PySem.W.WalkO q loose XP YP l.row.toRowW d [] (fun f vs => PySem.call f vs) :=
  walkG hn hdf ⟨rfl, by decide, by decide⟩ hY F hlaw
end Fm

open PySem PySem.W PyProof.Rows in
set_option maxRecDepth 100000 in
set_option maxHeartbeats 0 in
theorem PySem.Challenge.cw_formatfit_k19_reading_again_holds : PySem.Challenge.rw_formatfit_k19_reading_again.Holds := by
  w_on; o_law; k_head; (case hw => w_witness2)
  k_fill
  refine Fm.walk (l := PySem.Challenge.rw_formatfit_k19_reading_again) rfl rfl (fun w h Y => PySem.W.kIn_of Y) ?F Fm.law_k19_true
  case F =>
    intro w mg fa h KX G hmg
    refine' Fm.all_mk KX G hmg ?aC0 ?pg0 ?hd0 ?po0 ?sa0 ?mk0 ?kc0 ?na0_0 ?na0_1 ?aC1 ?pg1 ?hd1 ?po1 ?sa1 ?mk1 ?kc1 ?na1_0 ?na1_1 ?na1_2 ?ya0 ?ys0 ?yt0 ?yk0 ?yd0 ?yg0 ?yh0 ?yc0 ?yn0 ?yi0 ?ym0 ?yx0 ?a0 ?l0 ?c0 ?k0 ?a1 ?l1 ?c1 ?k1 ?a2 ?l2 ?c2 ?k2 ?a3 ?l3 ?c3 ?k3 ?a4 ?l4 ?c4 ?k4 ?a5 ?l5 ?c5 ?k5 ?a6 ?l6 ?c6 ?k6 ?a7 ?l7 ?c7 ?k7 ?a8 ?i8 ?l8 ?c8 ?k8 ?a9 ?i9 ?l9 ?c9 ?k9 ?a10 ?l10 ?c10 ?k10 ?a11 ?l11 ?c11 ?k11 ?a12 ?l12 ?c12 ?k12 ?a13 ?i13 ?l13 ?c13 ?k13 ?a14 ?i14 ?l14 ?c14 ?k14 ?a15 ?i15 ?l15 ?c15 ?k15 ?a16 ?i16 ?l16 ?c16 ?k16 ?a17 ?i17 ?l17 ?c17 ?k17 ?a18 ?i18 ?l18 ?c18 ?k18 ?a19 ?l19 ?c19 ?k19 ?a20 ?l20 ?c20 ?k20 ?a21 ?l21 ?c21 ?k21 ?a22 ?l22 ?c22 ?k22 ?a23 ?l23 ?c23 ?k23 ?a24 ?l24 ?c24 ?k24 ?a25 ?l25 ?c25 ?k25 ?a26 ?l26 ?c26 ?k26 ?a27 ?l27 ?c27 ?k27 ?a28 ?l28 ?c28 ?k28 ?a29 ?l29 ?c29 ?k29 ?a30 ?l30 ?c30 ?k30 ?a31 ?l31 ?c31 ?k31 ?a32 ?l32 ?c32 ?k32 ?a33 ?l33 ?c33 ?k33 ?a34 ?l34 ?c34 ?k34 ?a35 ?l35 ?c35 ?k35 ?a36 ?l36 ?c36 ?k36 ?a37 ?l37 ?c37 ?k37 ?a38 ?l38 ?c38 ?k38 ?a39 ?l39 ?c39 ?k39 ?a40 ?l40 ?c40 ?k40 ?a41 ?l41 ?c41 ?k41 ?a42 ?l42 ?c42 ?k42 ?a43 ?l43 ?c43 ?k43 ?a44 ?l44 ?c44 ?k44 ?a45 ?l45 ?c45 ?k45 ?a46 ?l46 ?c46 ?k46 ?a47 ?l47 ?c47 ?k47 ?a48 ?l48 ?c48 ?k48 ?g_CHOICE ?g_INTEGER ?g_KINDS ?l_KINDS ?y_KINDS ?g_LARGEST_SIZE ?g_LIST ?g_REASONS ?l_REASONS ?y_REASONS ?v_REASONS0 ?v_REASONS1 ?v_REASONS2 ?g_RECORD ?g_TEXT ?g_abs ?g_bool ?g_dict ?g_enumerate ?g_int ?g_isinstance ?g_len ?g_list ?g_max ?g_min ?g_range ?g_repr ?g_sorted ?g_str ?g_sum ?g_tuple ?g_zip
    (case aC0 => k_is)
    (case pg0 => k_is)
    (case hd0 => k_is)
    (case po0 => k_is)
    (case sa0 => k_is)
    (case mk0 => k_is)
    (case kc0 => k_is)
    (case na0_0 => k_is)
    (case na0_1 => k_is)
    (case aC1 => k_is)
    (case pg1 => k_is)
    (case hd1 => k_is)
    (case po1 => k_is)
    (case sa1 => k_is)
    (case mk1 => k_is)
    (case kc1 => k_is)
    (case na1_0 => k_is)
    (case na1_1 => k_is)
    (case na1_2 => k_is)
    (case ya0 => k_is)
    (case ys0 => k_is)
    (case yt0 => k_is)
    (case yk0 => k_is)
    (case yd0 => k_is)
    (case yg0 => k_is)
    (case yh0 => k_is)
    (case yc0 => k_is)
    (case yn0 => k_is)
    (case yi0 => k_is)
    (case ym0 => k_is)
    (case yx0 => k_exc)
    (case a0 => k_is)
    (case l0 => k_is)
    (case c0 => k_is)
    (case k0 => k_is)
    (case a1 => k_is)
    (case l1 => k_is)
    (case c1 => k_is)
    (case k1 => k_is)
    (case a2 => k_is)
    (case l2 => k_is)
    (case c2 => k_is)
    (case k2 => k_is)
    (case a3 => k_is)
    (case l3 => k_is)
    (case c3 => k_is)
    (case k3 => k_is)
    (case a4 => k_is)
    (case l4 => k_is)
    (case c4 => k_is)
    (case k4 => k_is)
    (case a5 => k_is)
    (case l5 => k_is)
    (case c5 => k_is)
    (case k5 => k_is)
    (case a6 => k_is)
    (case l6 => k_is)
    (case c6 => k_is)
    (case k6 => k_is)
    (case a7 => k_is)
    (case l7 => k_is)
    (case c7 => k_is)
    (case k7 => k_is)
    (case a8 => k_is)
    (case i8 => k_is)
    (case l8 => k_is)
    (case c8 => k_is)
    (case k8 => k_is)
    (case a9 => k_is)
    (case i9 => k_is)
    (case l9 => k_is)
    (case c9 => k_is)
    (case k9 => k_is)
    (case a10 => k_is)
    (case l10 => k_is)
    (case c10 => k_is)
    (case k10 => k_is)
    (case a11 => k_is)
    (case l11 => k_is)
    (case c11 => k_is)
    (case k11 => k_is)
    (case a12 => k_is)
    (case l12 => k_is)
    (case c12 => k_is)
    (case k12 => k_is)
    (case a13 => k_is)
    (case i13 => k_is)
    (case l13 => k_is)
    (case c13 => k_is)
    (case k13 => k_is)
    (case a14 => k_is)
    (case i14 => k_is)
    (case l14 => k_is)
    (case c14 => k_is)
    (case k14 => k_is)
    (case a15 => k_is)
    (case i15 => k_is)
    (case l15 => k_is)
    (case c15 => k_is)
    (case k15 => k_is)
    (case a16 => k_is)
    (case i16 => k_is)
    (case l16 => k_is)
    (case c16 => k_is)
    (case k16 => k_is)
    (case a17 => k_is)
    (case i17 => k_is)
    (case l17 => k_is)
    (case c17 => k_is)
    (case k17 => k_is)
    (case a18 => k_is)
    (case i18 => k_is)
    (case l18 => k_is)
    (case c18 => k_is)
    (case k18 => k_is)
    (case a19 => k_is)
    (case l19 => k_is)
    (case c19 => k_is)
    (case k19 => k_is)
    (case a20 => k_is)
    (case l20 => k_is)
    (case c20 => k_is)
    (case k20 => k_is)
    (case a21 => k_is)
    (case l21 => k_is)
    (case c21 => k_is)
    (case k21 => k_is)
    (case a22 => k_is)
    (case l22 => k_is)
    (case c22 => k_is)
    (case k22 => k_is)
    (case a23 => k_is)
    (case l23 => k_is)
    (case c23 => k_is)
    (case k23 => k_is)
    (case a24 => k_is)
    (case l24 => k_is)
    (case c24 => k_is)
    (case k24 => k_is)
    (case a25 => k_is)
    (case l25 => k_is)
    (case c25 => k_is)
    (case k25 => k_is)
    (case a26 => k_is)
    (case l26 => k_is)
    (case c26 => k_is)
    (case k26 => k_is)
    (case a27 => k_is)
    (case l27 => k_is)
    (case c27 => k_is)
    (case k27 => k_is)
    (case a28 => k_is)
    (case l28 => k_is)
    (case c28 => k_is)
    (case k28 => k_is)
    (case a29 => k_is)
    (case l29 => k_is)
    (case c29 => k_is)
    (case k29 => k_is)
    (case a30 => k_is)
    (case l30 => k_is)
    (case c30 => k_is)
    (case k30 => k_is)
    (case a31 => k_is)
    (case l31 => k_is)
    (case c31 => k_is)
    (case k31 => k_is)
    (case a32 => k_is)
    (case l32 => k_is)
    (case c32 => k_is)
    (case k32 => k_is)
    (case a33 => k_is)
    (case l33 => k_is)
    (case c33 => k_is)
    (case k33 => k_is)
    (case a34 => k_is)
    (case l34 => k_is)
    (case c34 => k_is)
    (case k34 => k_is)
    (case a35 => k_is)
    (case l35 => k_is)
    (case c35 => k_is)
    (case k35 => k_is)
    (case a36 => k_is)
    (case l36 => k_is)
    (case c36 => k_is)
    (case k36 => k_is)
    (case a37 => k_is)
    (case l37 => k_is)
    (case c37 => k_is)
    (case k37 => k_is)
    (case a38 => k_is)
    (case l38 => k_is)
    (case c38 => k_is)
    (case k38 => k_is)
    (case a39 => k_is)
    (case l39 => k_is)
    (case c39 => k_is)
    (case k39 => k_is)
    (case a40 => k_is)
    (case l40 => k_is)
    (case c40 => k_is)
    (case k40 => k_is)
    (case a41 => k_is)
    (case l41 => k_is)
    (case c41 => k_is)
    (case k41 => k_is)
    (case a42 => k_is)
    (case l42 => k_is)
    (case c42 => k_is)
    (case k42 => k_is)
    (case a43 => k_is)
    (case l43 => k_is)
    (case c43 => k_is)
    (case k43 => k_is)
    (case a44 => k_is)
    (case l44 => k_is)
    (case c44 => k_is)
    (case k44 => k_is)
    (case a45 => k_is)
    (case l45 => k_is)
    (case c45 => k_is)
    (case k45 => k_is)
    (case a46 => k_is)
    (case l46 => k_is)
    (case c46 => k_is)
    (case k46 => k_is)
    (case a47 => k_is)
    (case l47 => k_is)
    (case c47 => k_is)
    (case k47 => k_is)
    (case a48 => k_is)
    (case l48 => k_is)
    (case c48 => k_is)
    (case k48 => k_is)
    (case g_CHOICE => k_is)
    (case g_INTEGER => k_is)
    (case g_KINDS => k_is)
    (case l_KINDS => k_is)
    (case y_KINDS => first | rfl | kernel_rfl)
    (case g_LARGEST_SIZE => k_is)
    (case g_LIST => k_is)
    (case g_REASONS => k_is)
    (case l_REASONS => k_is)
    (case y_REASONS => k_keys)
    (case v_REASONS0 => k_is)
    (case v_REASONS1 => k_is)
    (case v_REASONS2 => k_is)
    (case g_RECORD => k_is)
    (case g_TEXT => k_is)
    (case g_abs => k_is)
    (case g_bool => k_is)
    (case g_dict => k_is)
    (case g_enumerate => k_is)
    (case g_int => k_is)
    (case g_isinstance => k_is)
    (case g_len => k_is)
    (case g_list => k_is)
    (case g_max => k_is)
    (case g_min => k_is)
    (case g_range => k_is)
    (case g_repr => k_is)
    (case g_sorted => k_is)
    (case g_str => k_is)
    (case g_sum => k_is)
    (case g_tuple => k_is)
    (case g_zip => k_is)
